import Derived.Test.YtlknfhjfkcboiaaDoorVamT6
set_option linter.unusedVariables false
set_option linter.unusedSimpArgs false
set_option linter.constructorNameAsVariable false
namespace Go.Proofs.YtlknfhjfkcboiaaDoor.night
open Vam
section
variable {is:FuncId→Bool}{orc:Known}
theorem fld109_0:zt Tryd.prog 109 0=some (0,72):=by kernel_rfl
theorem fld109_1:zt Tryd.prog 109 1=some (11,107):=by kernel_rfl
theorem sh107:shOf Tryd.prog 107=.one:=by kernel_rfl
theorem sh83:shOf Tryd.prog 83=.one:=by kernel_rfl
theorem ze4:yZ Tryd.prog 4=some ((.cons (.bool false) .nil):V):=by kernel_rfl
theorem ze83:yZ Tryd.prog 83=some ((.cons .nils .nil):V):=by kernel_rfl
noncomputable def b89:Code:=(Tryd.f89.body).getD .skip
theorem body89:bodyOf Tryd.prog 89=some (27,b89,[.tmp 2,.tmp 3]):=by kernel_rfl
theorem pure89:pureFn Tryd.prog 89=false:=by kernel_rfl
theorem pl109:zGR Tryd.prog 109=some [(0,11),(11,1)]:=by kernel_rfl
theorem ze109:yZ Tryd.prog 109=some ((.cons (.int .i64 0) (.cons .nils (.cons .nils (.cons .nils (.cons (.int .i64 0) (.cons .nils (.cons (.int .i64 0) (.cons (.int .i64 0) (.cons (.int .i64 0) (.cons .nils (.cons .nils (.cons .nilf .nil)))))))))))):V):=by kernel_rfl
noncomputable def b70:Code:=(Tryd.f70.body).getD .skip
theorem body70:bodyOf Tryd.prog 70=some (12,b70,[.tmp 2,.tmp 3]):=by kernel_rfl
theorem pure70:pureFn Tryd.prog 70=true:=by kernel_rfl
abbrev SRCb(b:Bk)(d:List Int):SB:=.box [.int .i64 b.bg,.lst .ro 1 (zE b.opens),.lst .ro 1 (zE b.ends),.lst .ro 5 (scsU b.scenes),.int .i64 b.fee,.lst .ro 1 (zE b.loads),.int .i64 b.cart,.int .i64 b.cost,.int .i64 b.feast,.lst .ro 1 (zE b.shares),.lst .ro 1 (zE d),.fn 88 [b.u] []]
def optU:Option (List Int)→U
 |none=>.lst .full 0 []
 |some q=>.lst .ro 1 (zE q)
theorem bd_bkc(b:Bk)(d:List Int)(n:Nat):BdS n (.box (Bk.cd b d)):=fun c hc=>by
 cases zBp b d 4 with
 |agg _ _ h=>exact((h c hc).nb).bd _
theorem bd_src(b:Bk)(d:List Int)(n:Nat):BdS n (SRCb b d):=fun c hc=>by
 rcases List.mem_append.1 (show c∈(Bk.cd b d)++[U.fn 88 [b.u] []]from hc)with hc|hc
 ·exact bd_bkc b d n c hc
 ·rcases List.mem_singleton.1 hc with rfl
  exact Bd.fn (fun u hu=>by rcases List.mem_singleton.1 hu with rfl;exact((wU b 4).nb).bd _) fun u hu=>by cases hu
theorem bd_opt(o:Option (List Int))(n:Nat):Bd n (optU o):=by
 cases o with
 |none=>exact Bd.lst fun c hc=>by cases hc
 |some q=>exact((zR 6 .ro (fun h=>by cases h) 1 q).nb).bd _
noncomputable def rg89:Code×Code:=match b89 with
 | .seq _ (.seq _ (.seq _ (.seq (.seq _ (.block _ (.rangeFunc _ _ a b))) _)))=>(a,b)
 |_=>(.skip,.skip)
noncomputable def lp89:Lp:=⟨fun i=>dg (zCC [(1,.box 1 0),(4,.box 2 0),(5,.box 3 0),(13,.fn 112 [] [.box 5 0,.box 6 0])] i .junk),[14],rg89.1,rg89.2⟩
abbrev tl89(b:Bk)(d:List Int):List SB:=[.box [.int .i64 b.bg,.lst .ro 1 (zE b.opens),.lst .ro 1 (zE b.ends),.lst .ro 5 (scsU b.scenes),.int .i64 b.fee,.lst .ro 1 (zE b.loads),.int .i64 b.cart,.int .i64 b.cost,.int .i64 b.feast,.lst .ro 1 (zE b.shares),.lst .ro 1 (zE d)],.box [.fn 113 [] [.box 4 0]],.box [.fn 58 [crU b d] []]]
abbrev Zo(b:Bk)(d:List Int)(o:Option (List Int)):List SB:=[.box [.int .i64 b.bg,.lst .ro 1 (zE b.opens),.lst .ro 1 (zE b.ends),.lst .ro 5 (scsU b.scenes),.int .i64 b.fee,.lst .ro 1 (zE b.loads),.int .i64 b.cart,.int .i64 b.cost,.int .i64 b.feast,.lst .ro 1 (zE b.shares),.lst .ro 1 (zE d)],SRCb b d,.box [optU o],.box [.bool o.isSome]]++tl89 b d
def okE(b:Bk)(q:List Int):Bool:=q.all (fun x=>decide (0≤x)&&decide (x<b.scenes.length))&&decide (q.length≤b.scenes.length)
theorem okE_iff{b:Bk}{q:List Int}:okE b q=true↔EOk b q:=by
 unfold okE EOk
 simp only[Bool.and_eq_true,List.all_eq_true,decide_eq_true_eq]
def bstE(b:Bk)(l:List (List Int)):Option (List Int):=bstO (wt b) (l.filter (okE b))
theorem bstE_snoc(b:Bk)(l:List (List Int)){q:List Int}(h:EOk b q):bstE b (l++[q])=bstS (wt b) (bstE b l) q:=by
 unfold bstE
 rw[List.filter_append,List.filter_cons_of_pos (okE_iff.2 h),List.filter_nil,bst_snoc]
theorem bstE_ok{b:Bk}{l:List (List Int)}{m:List Int}(h:bstE b l=some m):EOk b m:=by
 rcases zFV (wt b) (l.filter (okE b))with ⟨_,h2⟩|⟨m2,h2,h3,_⟩
 ·unfold bstE at h;rw[h2]at h;cases h
 ·unfold bstE at h;rw[h2]at h;cases h
  exact okE_iff.1 (List.mem_filter.1 h3).2
abbrev Z89(b:Bk)(d:List Int)(l:List (List Int)):List SB:=Zo b d (bstE b l)
theorem bd_Zo(b:Bk)(d:List Int)(o:Option (List Int)):∀x∈Zo b d o,BdS 7 x:=fun x hx=>by
 rcases List.mem_append.1 hx with hx|hx
 ·simp only[List.mem_cons,List.not_mem_nil,or_false]at hx
  rcases hx with rfl|rfl|rfl|rfl
  ·exact bd_bkc b d _
  ·exact bd_src b d _
  ·intro c hc;rcases List.mem_singleton.1 hc with rfl;exact bd_opt _ _
  ·intro c hc;rcases List.mem_singleton.1 hc with rfl;exact((Dat.bool 1 _).nb).bd _
 ·simp only[List.mem_cons,List.not_mem_nil,or_false]at hx
  rcases hx with rfl|rfl|rfl
  ·exact bd_bkc b d _
  ·intro c hc;rcases List.mem_singleton.1 hc with rfl
   exact Bd.fn (fun u hu=>by cases hu) fun u hu=>by rcases List.mem_singleton.1 hu with rfl;exact Bd.box (by omega)
  ·intro c hc;rcases List.mem_singleton.1 hc with rfl
   exact Bd.fn (fun u hu=>by rcases List.mem_singleton.1 hu with rfl;exact((zBp b d 4).nb).bd _) fun u hu=>by cases hu
def zGA(b:Bk)(d:List Int):List (List Int):=(chs b d).filter (fitB b d)
theorem genFits{b:Bk}(h:BOk b){d:List Int}(hd:DOk b d):Gen 112 [.box 5 0,.box 6 0] [(5,.box [.fn 113 [] [.box 4 0]]),(6,.box [.fn 58 [crU b d] []]),(4,.box (Bk.cd b d))] (zGA b d) (EOk b):=
 gen112 (gen113 h hd 4) (fun N hN u hu=>by
  rcases List.mem_singleton.1 hu with rfl
  exact Bd.box (hN _ List.mem_cons_self)) (fun is orc hi L hL=>ret58 hi h hd (by have:=h.sn;have:=hL.2;omega))
set_option maxHeartbeats 8000000 in
theorem cns89{b:Bk}(h:BOk b)(d:List Int):Cns 8 7 lp89 (fun _=>false) (fun l=>Z89 b d l++[.loop .ready lp89]) (Z89 b d []++[.loop (.done .ret) lp89]) (fun q=>EOk b q):=by
 have hlp:∀i,Bd 8 (lp89.fr i):=by
  refine lookU_all (p:=fun u=>Bd 8 (dg u)) ?_ (Bd.junk _)
  intro x hx
  simp only[List.mem_cons,List.not_mem_nil,or_false]at hx
  rcases hx with rfl|rfl|rfl|rfl
  ·exact Bd.box (by omega)
  ·exact Bd.box (by omega)
  ·exact Bd.box (by omega)
  ·refine Bd.fn (fun u hu=>by cases hu) fun u hu=>?_
   simp only[List.mem_cons,List.not_mem_nil,or_false]at hu
   rcases hu with rfl|rfl<;>exact Bd.box (by omega)
 have bd1:∀l q,∀x∈Z89 b d l++[.loop q lp89],BdS 8 x:=fun l q x hx=>by
  rcases List.mem_append.1 hx with hx|hx
  ·exact BdS.mono (bd_Zo b d _ x hx) (by omega)
  ·rcases List.mem_singleton.1 hx with rfl;exact hlp
 refine⟨fun l=>rfl,rfl,fun l=>bd1 l _,bd1 [] _,fun l=>rfl,fun i=>zDK _,⟨14,rfl,rfl⟩,fun is orc hi l q e hq=>?_⟩
 have hbs:=bstE_snoc b l hq
 show Wp _ _ _ rg89.1 ⟨_,[],(Zo b d (bstE b l)++[.loop .ready lp89])++e⟩ _
 show Wp _ _ _ _ _ fun e' s1=>e'=.normal∧s1.st[7]? =some (.loop .ready lp89)∧Wp _ _ _ rg89.2 ⟨s1.fr,[],s1.st.set 7 (.loop .busy lp89)⟩ fun e2 s2=>s2.st[7]? =some (.loop .busy lp89)∧match e2 with
  | .normal=>(false=false∧U.bool true=.bool true∧∃e',s2.st.set 7 (.loop .ready lp89)=(Zo b d (bstE b (l++[q]))++[.loop .ready lp89])++(e++e'))∨(false=true∧U.bool true=.bool false∧∃e',s2.st.set 7 (.loop .ready lp89)=(Z89 b d []++[.loop (.done .ret) lp89])++(e++e'))
  |ex=>(false=false∧U.bool false=.bool true∧∃e',s2.st.set 7 (.loop (.done ex) lp89)=(Zo b d (bstE b (l++[q]))++[.loop .ready lp89])++(e++e'))∨(false=true∧U.bool false=.bool false∧∃e',s2.st.set 7 (.loop (.done ex) lp89)=(Z89 b d []++[.loop (.done .ret) lp89])++(e++e'))
 rw[hbs]
 have hbe:=fun m=>bstE_ok (b:=b) (l:=l) (m:=m)
 generalize bstE b l=o at*
 have hsn:=h.sn
 refine k_region (zB rfl (zC ?_))
 refine⟨rfl,rfl,?_⟩
 cases o with
 |none=>
  have e1:bstS (wt b) none q=some q:=rfl
  rw[e1]
  refine zF [(1,.box 1 0),(4,.box 2 0),(5,.box 3 0),(6,.lst .ro 1 (zE q))] ((Zo b d none++[.loop .busy lp89])++e) (.n4 rfl) rfl fun fr=>?_
  refine zH (kQ (kC sh4 rfl (zh rfl rfl (zA rfl (ke rfl (ke rfl (ke rfl (ke rfl (ke rfl (kG rfl ?_))))))))))
  refine zC (k_cT rfl rfl ?_)
  refine k_region (zA rfl (yz rfl rfl sh83 rfl rfl (yz rfl rfl sh4 rfl rfl (zC ?_))))
  exact⟨rfl,.inl ⟨rfl,rfl,[],by rw[List.append_nil];rfl⟩⟩
 |some m=>
  have hm:=hbe m rfl
  have q88:=ret88 (orc:=orc) hi h (L:=q) (M:=m) (by have:=hq.2;omega) hq.1 (by have:=hm.2;omega) hm.1
  have e1:bstS (wt b) (some m) q=if ltB (wt b) q m=true then some q else some m:=rfl
  rw[e1]
  refine zF [(1,.box 1 0),(4,.box 2 0),(5,.box 3 0),(6,.lst .ro 1 (zE q))] ((Zo b d (some m)++[.loop .busy lp89])++e) (.n4 rfl) rfl fun fr=>?_
  cases hlt:ltB (wt b) q m with
  |true=>
   rw[hlt]at q88
   rw[if_pos rfl]
   refine zH (kQ (kC sh4 rfl (zh rfl rfl (zA rfl (kf rfl (kA rfl fld109_1 (kf rfl (kC sh107 rfl (kf rfl (zA rfl (kf rfl (kC sh83 rfl (kf rfl (zDD rfl rfl q88 (.lrefl _) ?_))))))))))))))
   refine kF rfl ?_
   refine zC (k_cT rfl rfl ?_)
   refine k_region (zA rfl (yz rfl rfl sh83 rfl rfl (yz rfl rfl sh4 rfl rfl (zC ?_))))
   exact⟨rfl,.inl ⟨rfl,rfl,[],by rw[List.append_nil];rfl⟩⟩
  |false=>
   rw[hlt]at q88
   rw[if_neg (by decide)]
   refine zH (kQ (kC sh4 rfl (zh rfl rfl (zA rfl (kf rfl (kA rfl fld109_1 (kf rfl (kC sh107 rfl (kf rfl (zA rfl (kf rfl (kC sh83 rfl (kf rfl (zDD rfl rfl q88 (.lrefl _) ?_))))))))))))))
   refine kF rfl ?_
   refine zC (k_cF rfl rfl ?_)
   refine zJ ?_
   exact⟨rfl,.inl ⟨rfl,rfl,[],by rw[List.append_nil];rfl⟩⟩
theorem q103(b:Bk)(d:List Int)(n:Nat):WpC Tryd.prog is orc 103 [crU b d] (List.replicate n .dead) fun u st'=>∃new,st'=List.replicate n .dead++new∧Fwd n u∧(∀x∈new,FwdS n x)∧(u=.fn 113 [] [.box n 0]∧new=[.box (Bk.cd b d)]):=by
 refine(wpc103 b d (List.replicate n .dead)).mono fun u st' hM=>?_
 rw[List.length_replicate]at hM
 obtain⟨rfl,rfl⟩:=hM
 refine⟨_,rfl,.fn (fun u hu=>by cases hu) fun u hu=>?_,fun x hx=>?_,rfl,rfl⟩
 ·rcases List.mem_singleton.1 hu with rfl;exact .box (by omega)
 ·rcases List.mem_singleton.1 hx with rfl
  intro c hc
  cases zBp b d 4 with
  |agg _ _ h=>exact((h c hc).nb).fwd n
theorem filter_all{α:Type}{p:α→Bool}{l:List α}(h:∀x∈l,p x=true):l.filter p=l:=List.filter_eq_self.2 h
theorem chs_eok{b:Bk}{d q:List Int}(h:q∈chs b d):EOk b q:=by
 obtain⟨s,_,rfl⟩:=List.mem_map.1 h
 exact memP_eok b _
def lgt(b:Bk)(d:List Int):Option (List Int):=bstO (wt b) (zGA b d)
theorem bstE_lgt(b:Bk)(d:List Int):bstE b (zGA b d)=lgt b d:=by
 unfold bstE lgt
 rw[show(zGA b d).filter (okE b)=zGA b d from filter_all fun q hq=>okE_iff.2 (chs_eok (List.mem_filter.1 hq).1)]
theorem lgt_ok{b:Bk}{d m:List Int}(h:lgt b d=some m):EOk b m:=bstE_ok ((bstE_lgt b d).trans h)
set_option maxHeartbeats 8000000 in
theorem wpc89(hi:Off is){b:Bk}(h:BOk b){d:List Int}(hd:DOk b d):WpC Tryd.prog is orc 89 [.agg [.int .i64 b.bg,.lst .ro 1 (zE b.opens),.lst .ro 1 (zE b.ends),.lst .ro 5 (scsU b.scenes),.int .i64 b.fee,.lst .ro 1 (zE b.loads),.int .i64 b.cart,.int .i64 b.cost,.int .i64 b.feast,.lst .ro 1 (zE b.shares),.lst .ro 1 (zE d),.fn 88 [b.u] []]] [.box (Bk.cd b d)] fun u st'=>u=.tup [optU (lgt b d),.bool (lgt b d).isSome]∧∃e,st'=[.box (Bk.cd b d)]++e:=by
 refine zFX body89 pure89 rfl rfl ?_
 refine kQ (yB rfl rfl (zB rfl (zB rfl (zC ?_))))
 refine zF [(1,U.box 1 0)] ([SB.box (Bk.cd b d),SB.box [.int .i64 (Bk.bg b),.lst .ro 1 (zE (Bk.opens b)),.lst .ro 1 (zE (Bk.ends b)),.lst .ro 5 (scsU (Bk.scenes b)),.int .i64 (Bk.fee b),.lst .ro 1 (zE (Bk.loads b)),.int .i64 (Bk.cart b),.int .i64 (Bk.cost b),.int .i64 (Bk.feast b),.lst .ro 1 (zE (Bk.shares b)),.lst .ro 1 (zE d),U.fn 88 [Bk.u b] []]]) (.n1 rfl) rfl fun fr=>?_
 refine kQ (zq rfl ze83 ?_)
 refine zC ?_
 refine zF [(1,U.box 1 0),(4,U.box 2 0)] ([SB.box (Bk.cd b d),SB.box [.int .i64 (Bk.bg b),.lst .ro 1 (zE (Bk.opens b)),.lst .ro 1 (zE (Bk.ends b)),.lst .ro 5 (scsU (Bk.scenes b)),.int .i64 (Bk.fee b),.lst .ro 1 (zE (Bk.loads b)),.int .i64 (Bk.cart b),.int .i64 (Bk.cost b),.int .i64 (Bk.feast b),.lst .ro 1 (zE (Bk.shares b)),.lst .ro 1 (zE d),U.fn 88 [Bk.u b] []],SB.box [.lst .full 0 []]]) (.n2 rfl) rfl fun fr=>?_
 refine kQ (zq rfl ze4 ?_)
 refine yz rfl rfl sh4 rfl rfl (zC ?_)
 refine zF [(1,U.box 1 0),(4,U.box 2 0),(5,U.box 3 0)] ([SB.box (Bk.cd b d),SB.box [.int .i64 (Bk.bg b),.lst .ro 1 (zE (Bk.opens b)),.lst .ro 1 (zE (Bk.ends b)),.lst .ro 5 (scsU (Bk.scenes b)),.int .i64 (Bk.fee b),.lst .ro 1 (zE (Bk.loads b)),.int .i64 (Bk.cart b),.int .i64 (Bk.cost b),.int .i64 (Bk.feast b),.lst .ro 1 (zE (Bk.shares b)),.lst .ro 1 (zE d),U.fn 88 [Bk.u b] []],SB.box [.lst .full 0 []],SB.box [.bool false]]) (.n3 rfl) rfl fun fr=>?_
 refine k_seq (k_seq (wH [.plain,.read true,.quiet,.plain,.read true,.plain,.plain] (by kernel_rfl) (by kernel_rfl) (by kernel_rfl) ?_))
 refine zD (kA rfl fld109_0 (zC rfl)) ?_
 refine zV rfl (kD sh72 rfl (zC rfl)) ?_
 refine d_callQW (n:=4) rfl rfl (fun u hu=>by rcases List.mem_singleton.1 hu with rfl;exact(zBp b d 4).nb) (q103 b d 4) (.lrefl _) (fun u new hM=>?_)
 obtain⟨rfl,rfl⟩:=hM
 refine zD (kA rfl fld109_0 (zC rfl)) ?_
 refine zV rfl (kD sh72 rfl (zC rfl)) ?_
 refine zD (zDq rfl (zC rfl)) ?_
 refine d_callWE rfl (wpc102 113 58 [] [.box 4 0] [crU b d] [] _) (.lrefl _) fun u st1 hM=>?_
 obtain⟨rfl,rfl⟩:=hM
 refine zAo ?_
 refine zH (k_forget [(1,.box 1 0),(4,.box 2 0),(5,.box 3 0),(13,.fn 112 [] [.box 5 0,.box 6 0])] (Z89 b d []) (.n4 rfl) rfl ?_)
 refine k_rangeG (n:=7) (stop:=fun _=>false) (Z:=Z89 b d) (DZ:=Z89 b d []) (ex:=.ret) hi (genFits h hd) rfl (cns89 h d) (fun l=>rfl) rfl (fun c hc l=>?_) (fun l=>bd_Zo b d _) (bd_Zo b d _) rfl rfl (fun _=>?_) (fun h=>by rw[List.any_eq_true]at h;obtain⟨_,_,h⟩:=h;cases h)
 ·simp only[List.mem_cons,List.not_mem_nil,or_false]at hc
  rcases hc with rfl|rfl|rfl<;>rfl
 rw[show Z89 b d (zGA b d)=Zo b d (lgt b d) by unfold Z89;rw[bstE_lgt]]
 generalize lgt b d=o
 refine zF [(4,.box 2 0),(5,.box 3 0)] (Zo b d o) (.n2 rfl) rfl fun fr=>?_
 cases o with
 |none=>
  refine k_seq (wH [.read true,.read true,.plain,.plain] (by kernel_rfl) (by kernel_rfl) (by kernel_rfl) ?_)
  refine zV rfl (kC sh83 rfl (zC rfl)) (zV rfl (kC sh4 rfl (zC rfl)) (zD (zB rfl (zC rfl)) ?_))
  refine zD (zB rfl (zC rfl)) ?_
  refine zAo ?_
  refine zS ?_
  refine⟨.inr rfl,_,.cons _ _ _ _ (.tmp 2) (.cons _ _ _ _ (.tmp 3) .nil),?_⟩
  exact⟨_,.refl _,rfl,_,rfl⟩
 |some m=>
  refine k_seq (wH [.read true,.read true,.plain,.plain] (by kernel_rfl) (by kernel_rfl) (by kernel_rfl) ?_)
  refine zV rfl (kC sh83 rfl (zC rfl)) (zV rfl (kC sh4 rfl (zC rfl)) (zD (zB rfl (zC rfl)) ?_))
  refine zD (zB rfl (zC rfl)) ?_
  refine zAo ?_
  refine zS ?_
  refine⟨.inr rfl,_,.cons _ _ _ _ (.tmp 2) (.cons _ _ _ _ (.tmp 3) .nil),?_⟩
  exact⟨_,.refl _,rfl,_,rfl⟩
theorem dat_opt(o:Option (List Int))(k:Nat):Dat (k+2) (optU o):=by
 cases o with
 |none=>exact zR k .full (fun h=>by cases h) 0 []
 |some m=>exact zR k .ro (fun h=>by cases h) 1 m
set_option maxHeartbeats 8000000 in
theorem ret70(hi:Off is){b:Bk}(h:BOk b){d:List Int}(hd:DOk b d):RetP Tryd.prog is orc 70 [crU b d] (.tup [optU (lgt b d),.bool (lgt b d).isSome]):=by
 refine zp body70 pure70 (hi 70 (by decide)) rfl rfl (zCT (zBp b d 4)) (.inr ⟨_,rfl,zu (k:=7) (dat_opt _ 5) (.bool _ _)⟩) ?_
 refine kQ (yB rfl rfl (zB rfl (zB rfl (zC ?_))))
 refine zF [(1,U.box 0 0)] ([SB.box (Bk.cd b d)]) (.n1 rfl) rfl fun fr=>?_
 refine kQ (kD sh72 rfl (kA rfl zBd (kD sh70 rfl ?_)))
 refine zDq rfl ?_
 refine wk rfl ze109 pl109 rfl rfl ?_
 refine zDZ rfl (wpc89 hi h hd) (.lrefl _) (fun u st1 hM=>?_)
 obtain⟨rfl,e,rfl⟩:=hM
 generalize lgt b d=o
 cases o with
 |none=>
  refine kz rfl (kz rfl (zB rfl (zB rfl (zC (zS ?_)))))
  refine⟨.inr rfl,_,.cons _ _ _ _ (.tmp 2) (.cons _ _ _ _ (.tmp 3) .nil),?_⟩
  exact .refl _
 |some m=>
  refine kz rfl (kz rfl (zB rfl (zB rfl (zC (zS ?_)))))
  refine⟨.inr rfl,_,.cons _ _ _ _ (.tmp 2) (.cons _ _ _ _ (.tmp 3) .nil),?_⟩
  exact .refl _
end
section
variable {is:FuncId→Bool}{orc:Known}
noncomputable def b68:Code:=(Tryd.f68.body).getD .skip
theorem body68:bodyOf Tryd.prog 68=some (27,b68,[.tmp 2]):=by kernel_rfl
theorem pure68:pureFn Tryd.prog 68=true:=by kernel_rfl
noncomputable def b63:Code:=(Tryd.f63.body).getD .skip
theorem body63:bodyOf Tryd.prog 63=some (24,b63,[.tmp 2,.tmp 3]):=by kernel_rfl
theorem pure63:pureFn Tryd.prog 63=true:=by kernel_rfl
noncomputable def b84:Code:=(Tryd.f84.body).getD .skip
theorem body84:bodyOf Tryd.prog 84=some (16,b84,[.tmp 6]):=by kernel_rfl
theorem pure84:pureFn Tryd.prog 84=true:=by kernel_rfl
noncomputable def b62:Code:=(Tryd.f62.body).getD .skip
theorem body62:bodyOf Tryd.prog 62=some (44,b62,[.tmp 4]):=by kernel_rfl
theorem pure62:pureFn Tryd.prog 62=true:=by kernel_rfl
def zBL(d:List Int)(i:Nat):Bool:=decide ((d[i]?).getD 0= -1)
def zAH(d:List Int):List Int:=memP (zBL d) d.length
set_option maxHeartbeats 8000000 in
theorem ret68(hi:Off is)(b:Bk){d:List Int}(hd:d.length≤64):RetP Tryd.prog is orc 68 [crU b d] (.lst .ro 1 (zE (zAH d))):=by
 refine zp body68 pure68 (hi 68 (by decide)) rfl rfl (zCT (zBp b d 4)) (.inl (zR 6 .ro (fun h=>by cases h) 1 _)) ?_
 unfold zAH
 refine kQ (yB rfl rfl (zB rfl (zC ?_)))
 refine zF [(1,U.box 0 0)] ([SB.box (Bk.cd b d)]) (.n1 rfl) rfl fun fr=>?_
 refine kQ (zB rfl (zC (k_seq (kQ (kA rfl wK (kC sh22 rfl (zP rfl ty22 rfl (List.length_map _) ?_)))))))
 refine zA rfl (zC (zH ?_))
 refine yR (fun kk s2=>∃i:Nat,kk+i=d.length∧s2.st=[.box (Bk.cd b d)]∧Holds s2 [(3,accI (memP (zBL d) i)),(7,.lst .ro 1 (zE d)),(8,.int .i64 d.length),(9,.int .i64 i)]) (fun kk s2 hI=>?_) d.length _ ⟨0,rfl,rfl,.c4 rfl rfl rfl rfl (.nil rfl)⟩
 obtain⟨i,hk,hst2,hs2⟩:=hI
 have hsu:=zBH (zBL d) i
 have hlen:=zCA (zBL d) i
 obtain⟨M,hM⟩:∃M,M=memP (zBL d) i:=⟨_,rfl⟩
 rw[←hM]at hsu hlen hs2
 by_cases hin:i<d.length
 ·obtain⟨x,hx⟩:∃x,d[i]? =some x:=⟨d[i],List.getElem?_eq_getElem hin⟩
  have hp:zBL d i=decide (x= -1):=by unfold zBL;rw[hx];rfl
  refine zF _ _ hs2 hst2 fun fr2=>?_
  by_cases hx1:x= -1
  ·rw[hp,kH hx1,if_pos rfl]at hsu
   cases M with
   |nil=>
    refine kQ (kq rfl (zC (k_seq (k_cT rfl (kH (by omega)) (zJ (k_seq (zH (kQ (zA rfl (zX (u:=.int .i64 (x)) rfl ty22 rfl rfl (Int.natCast_nonneg _) (by simp[hx]) cl3 ?_))))))))))
    refine kE sh3 rfl ?_
    refine zB rfl (zB rfl (zC (kQ (zA rfl (kw rfl (zC (k_cT rfl (kH (by omega)) (k_region (zA rfl (zA rfl (wW (es:=[.int .i64 ↑i]) rfl ty83 ze3 cl3 rfl rfl rfl rfl rfl rfl rfl rfl ?_)))))))))))
    refine wC rfl ap83_83 rfl rfl (by simp) (by simp) (by simp[yF,zg,oneU]) (by simp) ?_
    refine zB rfl (zC ?_)
    refine zF [(3,U.lst Kd.own 1 [.int .i64 ↑i]),(7,.lst .ro 1 (zE d)),(8,.int .i64 ↑(List.length d)),(9,.int .i64 ↑i)] ([SB.box (Bk.cd b d)]) (.n4 rfl) rfl fun fr=>?_
    refine k_region ?_
    refine kB rfl (by unfold I64;omega) (zA rfl (zC ?_))
    exact⟨kk - 1,by omega,i+1,by omega,rfl,.cons (by rw[hsu];rfl) (.n3 rfl)⟩
   |cons y M=>
    refine kQ (kq rfl (zC (k_seq (k_cT rfl (kH (by omega)) (zJ (k_seq (zH (kQ (zA rfl (zX (u:=.int .i64 (x)) rfl ty22 rfl rfl (Int.natCast_nonneg _) (by simp[hx]) cl3 ?_))))))))))
    refine kE sh3 rfl ?_
    refine zB rfl (zB rfl (zC (kQ (zA rfl (kw rfl (zC (k_cT rfl (kH (by omega)) (k_region (zA rfl (zA rfl (wW (es:=[.int .i64 ↑i]) rfl ty83 ze3 cl3 rfl rfl rfl rfl rfl rfl rfl rfl ?_)))))))))))
    refine wX 3 rfl ap83_83 rfl rfl rfl (by simp) (by simp) (by simp[yF,zg,oneU]) (by simp at hlen ⊢;omega) ?_
    refine zB rfl (zC (k_region ?_))
    refine kB rfl (by unfold I64;omega) (zA rfl (zC ?_))
    exact⟨kk - 1,by omega,i+1,by omega,rfl,.cons (by rw[hsu,wO];rfl) (.n3 rfl)⟩
  ·rw[hp,kI hx1,if_neg (by decide),List.append_nil]at hsu
   refine kQ (kq rfl (zC (k_seq (k_cT rfl (kH (by omega)) (zJ (k_seq (zH (kQ (zA rfl (zX (u:=.int .i64 (x)) rfl ty22 rfl rfl (Int.natCast_nonneg _) (by simp[hx]) cl3 ?_))))))))))
   refine kE sh3 rfl ?_
   refine zB rfl (zB rfl (zC (kQ (zA rfl (kw rfl (zC (k_cF rfl (kI (by omega)) (zJ (k_region ?_)))))))))
   refine kB rfl (by unfold I64;omega) (zA rfl (zC ?_))
   exact⟨kk - 1,by omega,i+1,by omega,rfl,.cons (congrArg accI hsu.symm) (.n3 rfl)⟩
 ·have hie:d.length=i:=by omega
  rw[hie,←hM]
  refine zF _ _ hs2 hst2 fun fr2=>?_
  cases M with
  |nil=>
   refine kQ (kq rfl (zC (k_seq (k_cF rfl (kI (by omega)) (zr (kQ (zA rfl (zA rfl (zP rfl ty83 rfl rfl ?_)))))))))
   refine zA rfl (zP rfl ty83 rfl rfl ?_)
   refine o_slice0 rfl ty83 cl3 rfl (by simp) rfl rfl (Nat.le_refl _) ?_
   refine zB rfl (zC (zS ?_))
   refine⟨.inr rfl,_,.cons _ _ _ _ (.tmp 2) .nil,?_⟩
   exact .ro _ _ _
  |cons y M=>
   have huw:UW (.u (.lst .full 1 (List.take (y::M).length (zE (y::M))))) (.u (.lst .ro 1 (zE (y::M)))):=by
    rw[List.take_of_length_le (by simp[zE])];exact .ro _ _ _
   refine kQ (kq rfl (zC (k_seq (k_cF rfl (kI (by omega)) (zr (kQ (zA rfl (zA rfl (zP rfl ty83 rfl (List.length_map _) ?_)))))))))
   refine zA rfl (zP rfl ty83 rfl (List.length_map _) ?_)
   refine o_slice0 rfl ty83 cl3 rfl (by simp) rfl rfl (by simp) ?_
   refine zB rfl (zC (zS ?_))
   refine⟨.inr rfl,_,.cons _ _ _ _ (.tmp 2) .nil,?_⟩
   exact huw
theorem zFP{b:Bk}{d m:List Int}(h:lgt b d=some m):(m∈chs b d∧fitB b d m=true)∧∀q,q∈chs b d→fitB b d q=true→ltB (wt b) q m=false:=by
 rcases zFV (wt b) (zGA b d)with ⟨_,h2⟩|⟨m2,h2,h3,h4⟩
 ·unfold lgt at h;rw[h2]at h;cases h
 ·unfold lgt at h;rw[h2]at h;cases h
  exact⟨List.mem_filter.1 h3,fun q h5 h6=>h4 q (List.mem_filter.2 ⟨h5,h6⟩)⟩
theorem lgt_none{b:Bk}{d:List Int}(h:lgt b d=none):∀q,q∈chs b d→fitB b d q=false:=by
 rcases zFV (wt b) (zGA b d)with ⟨h1,_⟩|⟨m2,h2,h3,h4⟩
 ·intro q hq
  cases hf:fitB b d q with
  |false=>rfl
  |true=>
   have:q∈zGA b d:=List.mem_filter.2 ⟨hq,hf⟩
   rw[h1]at this;cases this
 ·unfold lgt at h;rw[h2]at h;cases h
theorem mem_chs{b:Bk}{d q:List Int}:q∈chs b d↔ ∃P:Nat→Bool,okN b d P b.scenes.length=true∧q=memP P b.scenes.length:=by
 constructor
 ·intro h
  obtain⟨s,h1,rfl⟩:=List.mem_map.1 h
  exact⟨bt s,(List.mem_filter.1 h1).2,rfl⟩
 ·rintro⟨P,h1,rfl⟩
  obtain⟨s,hs,hb⟩:=bits_ex P b.scenes.length
  refine List.mem_map.2 ⟨s,List.mem_filter.2 ⟨List.mem_range.2 hs,?_⟩,zBm hb⟩
  rw[zDX]at h1 ⊢
  intro i hi
  show canB b d (s.testBit i) i=true
  rw[hb i hi];exact h1 i hi
theorem memP_pre(P:Nat→Bool):∀{n k:Nat},k≤n→∃r,memP P n=memP P k++r∧∀x∈r,(k:Int)≤x:=by
 intro n
 induction n with
 |zero=>
  intro k hk
  obtain rfl:k=0:=by omega
  exact⟨[],by simp,fun x hx=>by cases hx⟩
 |succ n ih=>
  intro k hk
  by_cases e:k=n+1
  ·subst e;exact⟨[],by simp,fun x hx=>by cases hx⟩
  ·obtain⟨r,h1,h2⟩:=ih (k:=k) (by omega)
   refine⟨r++if P n=true then [(n:Int)]else [],by rw[zBH,h1,List.append_assoc],fun x hx=>?_⟩
   rcases List.mem_append.1 hx with hx|hx
   ·exact h2 x hx
   ·split at hx
    ·rcases List.mem_singleton.1 hx with rfl;omega
    ·cases hx
theorem chs_left{b:Bk}{d q:List Int}(hd:DOk b d)(h:q∈chs b d):∃r,q=zAH d++r∧∀x∈r,(d.length:Int)≤x:=by
 obtain⟨P,h1,rfl⟩:=mem_chs.1 h
 obtain⟨r,h2,h3⟩:=memP_pre P hd.len
 refine⟨r,?_,h3⟩
 rw[h2]
 congr 1
 refine zBm fun i hi=>?_
 have:=(zDX _).1 h1 i (by have:=hd.len;omega)
 unfold canB at this
 rw[if_pos hi]at this
 exact of_decide_eq_true this
def cueO(b:Bk)(d:List Int):Option (List Int):=(lgt b d).map fun m=>m.drop (zAH d).length
set_option maxHeartbeats 8000000 in
theorem ret63(hi:Off is){b:Bk}(h:BOk b){d:List Int}(hd:DOk b d):RetP Tryd.prog is orc 63 [crU b d] (.tup [optU (cueO b d),.bool (lgt b d).isSome]):=by
 refine zp body63 pure63 (hi 63 (by decide)) rfl rfl (zCT (zBp b d 4)) (.inr ⟨_,rfl,zu (k:=7) (dat_opt _ 5) (.bool _ _)⟩) ?_
 have hn:=h.sn
 have hdl:=hd.len
 have q70:=ret70 (orc:=orc) hi h hd
 have q68:=ret68 (orc:=orc) hi b (d:=d) (by omega)
 unfold cueO
 cases ho:lgt b d with
 |none=>
  rw[ho]at q70
  refine kQ (yB rfl rfl (zB rfl (zB rfl (zC ?_))))
  refine zF [(1,U.box 0 0)] ([SB.box (Bk.cd b d)]) (.n1 rfl) rfl fun fr=>?_
  refine kQ (kD sh72 rfl (zG rfl (q70) (.lrefl _) (zA rfl (kz rfl (kz rfl (zB rfl (zB rfl (zC (k_seq (kQ (zA rfl (zh rfl rfl (zC (k_cT rfl rfl ?_))))))))))))))
  refine kQ (zB rfl (zB rfl (zC (zS ?_))))
  refine⟨.inr rfl,_,.cons _ _ _ _ (.tmp 2) (.cons _ _ _ _ (.tmp 3) .nil),?_⟩
  exact .refl _
 |some m=>
  have hm:=(zFP ho).1.1
  have hok:=lgt_ok ho
  have hml:=hok.2
  rw[ho]at q70
  have q70:RetP Tryd.prog is orc 70 [crU b d] (.tup [.lst .ro 1 (zE m),.bool true]):=q70
  obtain⟨r,hr,_⟩:=chs_left hd hm
  have hk:(zAH d).length≤m.length:=by rw[hr,List.length_append];omega
  generalize zAH d=K at*
  refine kQ (yB rfl rfl (zB rfl (zB rfl (zC ?_))))
  refine zF [(1,U.box 0 0)] ([SB.box (Bk.cd b d)]) (.n1 rfl) rfl fun fr=>?_
  refine kQ (kD sh72 rfl (zG rfl (q70) (.lrefl _) (zA rfl (kz rfl (kz rfl (zB rfl (zB rfl (zC (k_seq (kQ (zA rfl (zh rfl rfl (zC (k_cF rfl rfl ?_))))))))))))))
  refine zJ (kQ (kD sh72 rfl (zG rfl (q68) (.lrefl _) (zP rfl ty83 rfl (List.length_map _) ?_))))
  refine zB rfl (zC ?_)
  refine zF [(4,.lst .ro 1 (zE m)),(6,.int .i64 ↑(List.length K))] ([SB.box (Bk.cd b d)]) (.n2 rfl) rfl fun fr=>?_
  refine kQ (zA rfl (zA rfl (zA rfl (zP rfl ty83 rfl (List.length_map _) ?_))))
  refine zA rfl (zP rfl ty83 rfl (List.length_map _) ?_)
  refine o_slice3 .ro (fun h=>by cases h) rfl ty83 cl3 rfl rfl (by simp) rfl rfl rfl (by omega) (by simp) ?_
  refine zB rfl (zB rfl (zC (zS ?_)))
  refine⟨.inr rfl,_,.cons _ _ _ _ (.tmp 2) (.cons _ _ _ _ (.tmp 3) .nil),?_⟩
  have huw:UW (.u (.lst .ro 1 (((zE m).take m.length).drop K.length))) (.u (.lst .ro 1 (zE (m.drop K.length)))):=by
   rw[List.take_of_length_le (by simp[zE]),←List.map_drop];exact .refl _
  exact .tup _ _ (.lcons _ _ _ _ huw (.lrefl _))
end
end Go.Proofs.YtlknfhjfkcboiaaDoor.night
