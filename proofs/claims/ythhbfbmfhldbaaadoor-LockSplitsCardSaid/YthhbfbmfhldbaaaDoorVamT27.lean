import Derived.Test.YthhbfbmfhldbaaaDoorVamT26
set_option linter.unusedVariables false
set_option linter.unusedSimpArgs false
set_option linter.constructorNameAsVariable false
namespace Go.Proofs.YthhbfbmfhldbaaaDoor.locks
open Vam
section
variable {is:FuncId→Bool}{orc:Known}{l:Ln}
noncomputable def b25:Code:=(Tryd.f25.body).getD .skip
theorem body25:bodyOf Tryd.prog 25=some (62,b25,[.tmp 2,.tmp 3]):=by kernel_rfl
theorem pure25:pureFn Tryd.prog 25=true:=by kernel_rfl
def samK(L:List (List Int))(b:List Int)(k:Nat)(z:Bool):Nat→Bool
 |0=>z
 |i+1=>samK L b k z i&&decide (at' ((L[i]?).getD []) k=at' b k)
theorem samK_iff{L:List (List Int)}{b:List Int}{k:Nat}{z:Bool}:∀i,i≤L.length→(samK L b k z i=true↔z=true∧∀p∈L.take i,at' p k=at' b k):=by
 intro i
 induction i with
 |zero=>intro _;exact⟨fun h=>⟨h,fun p hp=>by simp at hp⟩,fun h=>h.1⟩
 |succ i ih=>
  intro hi
  obtain⟨q,hq⟩:∃q,L[i]? =some q:=⟨L[i],List.getElem?_eq_getElem (by omega)⟩
  unfold samK
  rw[Bool.and_eq_true,ih (by omega),decide_eq_true_eq,List.take_add_one,hq]
  show(_∧at' q k=at' b k)↔_
  constructor
  ·rintro⟨⟨h1,h2⟩,h3⟩
   refine⟨h1,fun p hp=>?_⟩
   rcases List.mem_append.1 hp with hp|hp
   ·exact h2 p hp
   ·rcases List.mem_singleton.1 hp with rfl;exact h3
  ·rintro⟨h1,h2⟩
   exact⟨⟨h1,fun p hp=>h2 p (List.mem_append.2 (.inl hp))⟩,h2 q (List.mem_append.2 (.inr (List.mem_singleton.2 rfl)))⟩
theorem memP_end{P:Nat→Bool}{n:Nat}(h:∀k,n≤k→P k=false):∀m,n≤m→memP P m=memP P n:=by
 intro m hm
 obtain⟨d,rfl⟩:=Nat.le.dest hm
 clear hm
 induction d with
 |zero=>rfl
 |succ d ih=>
  show memP P (n+d+1)=_
  rw[zBc,h _ (by omega),if_neg (by decide),List.append_nil,ih]
theorem for_n(h:VL l):memP (fcF l) 16=memP (fcF l) l.slots.length:=by
 refine memP_end (fun k hk=>?_) 16 h.n.2
 cases c:fcF l k with
 |false=>rfl
 |true=>have:=str_lt (fc_iff.1 c).1;omega
theorem fc_sam(h:VL l){b:List Int}(hb:b∈splL l){k:Nat}(hk:k<l.slots.length):samK (splL l) b k (decide (at' l.slots k ≥ 0)) (splL l).length=fcF l k:=by
 have hin:at' l.slots k∈l.slots:=by
  unfold at';rw[List.getElem?_eq_getElem hk];exact List.getElem_mem hk
 have ht:=h.tn _ hin
 have key:samK (splL l) b k (decide (at' l.slots k ≥ 0)) (splL l).length=true↔fcF l k=true:=by
  rw[samK_iff _ (Nat.le_refl _),fc_iff,List.take_length,decide_eq_true_eq]
  constructor
  ·rintro⟨h1,h2⟩
   refine⟨by omega,?_⟩
   by_cases c:at' b k=0
   ·exact .inr fun p hp=>by rw[h2 p hp,c]
   ·exact .inl fun p hp=>by rw[h2 p hp];exact c
  ·rintro⟨h1,h2⟩
   refine⟨by omega,fun p hp=>?_⟩
   have a1:=spl_str h hp hk h1
   have a2:=spl_str h hb hk h1
   rcases h2 with h2|h2
   ·have:=h2 p hp
    have:=h2 b hb
    omega
   ·rw[h2 p hp,h2 b hb]
 cases c:fcF l k with
 |true=>exact key.2 c
 |false=>
  cases d:samK (splL l) b k (decide (at' l.slots k ≥ 0)) (splL l).length with
  |false=>rfl
  |true=>rw[key.1 d]at c;cases c
set_option maxHeartbeats 16000000 in
theorem ret25(hi:Off is)(l:Ln):RetP Tryd.prog is orc 25 [l.u] (.tup [.lst .ro 1 (zE (forR l)),.int .i64 (forE l)]):=by
 refine zw body25 pure25 (hi 25 (by decide)) rfl rfl (wA (yk l 5)) (.inr ⟨_,rfl,yq (yG 5 .ro (fun h=>by cases h) 1 _) (.int _ _ _)⟩) ?_
 have q18:=ret18 (orc:=orc) hi l
 have hE:forE l=if zz l=true then if(splL l).length=0 then 4 else 0 else 70:=rfl
 have hR:forR l=if forE l=0 then memP (fcF l) 16 else []:=rfl
 cases hv:zz l with
 |false=>
  rw[hv,if_neg (by decide)]at q18 hE
  rw[hE,if_neg (by decide)]at hR
  rw[hE,hR]
  refine kQ (zk rfl rfl (zA rfl (zA rfl (zB ?_))))
  refine zH [(1,U.box 0 0)] ([SB.box [.lst .ro 1 (zE (Ln.slots l)),.int .i64 (Ln.left l),.int .i64 (Ln.right l),.int .i64 (Ln.run l)]]) (.n1 rfl) rfl fun fr=>?_
  refine k_seq (kQ (kB sh24 rfl (zN rfl (q18) (.lrefl _) (zA rfl (zB (kQ (zC rfl (kr rfl (zB (k_cT rfl rfl ?_))))))))))
  refine kQ (zC rfl (zA rfl (zA rfl (zB (zV ?_)))))
  refine⟨.inr rfl,_,.cons _ _ _ _ (.tmp 2) (.cons _ _ _ _ (.tmp 3) .nil),?_⟩
  exact .tup _ _ (.lcons _ _ _ _ (.nil .full .ro 1) (.lrefl _))
 |true=>
  have h:=yl.1 hv
  have hn:=h.n
  rw[hv,if_pos rfl]at q18 hE
  have q62:=ret62 (orc:=orc) hi h
  have hfew:=spl_few h
  have hlen:∀p∈splL l,p.length=l.slots.length:=fun p hp=>zDr h hp
  have hsm:=fun(b:List Int) (hb:b∈splL l) (k:Nat) hk=>fc_sam h hb (k:=k) hk
  rw[for_n h]at hR
  generalize splL l=L at*
  cases L with
  |nil=>
   have hE:forE l=4:=hE
   rw[hE,if_neg (by decide)]at hR
   rw[hE,hR]
   refine kQ (zk rfl rfl (zA rfl (zA rfl (zB ?_))))
   refine zH [(1,U.box 0 0)] ([SB.box [.lst .ro 1 (zE (Ln.slots l)),.int .i64 (Ln.left l),.int .i64 (Ln.right l),.int .i64 (Ln.run l)]]) (.n1 rfl) rfl fun fr=>?_
   refine k_seq (kQ (kB sh24 rfl (zN rfl (q18) (.lrefl _) (zA rfl (zB (kQ (zC rfl (kr rfl (zB (k_cF rfl rfl ?_))))))))))
   refine zL (kQ (kB sh24 rfl (zN rfl (q62) (.lrefl _) (zA rfl (zB (k_seq (kQ (zC rfl (zq rfl ty42 rfl (List.length_map _) ?_)))))))))
   refine ks rfl (zB ?_)
   refine zH [(1,U.box 0 0),(5,.lst .ro 1 (zAE [])),(19,U.bool (decide (↑(List.length [])=(0:Int))))] ([SB.box [.lst .ro 1 (zE (Ln.slots l)),.int .i64 (Ln.left l),.int .i64 (Ln.right l),.int .i64 (Ln.run l)]]) (.n3 rfl) rfl fun fr=>?_
   refine k_cT rfl rfl ?_
   refine kQ (zA rfl (zA rfl (zB (zV ?_))))
   refine⟨.inr rfl,_,.cons _ _ _ _ (.tmp 2) (.cons _ _ _ _ (.tmp 3) .nil),?_⟩
   exact .tup _ _ (.lcons _ _ _ _ (.nil .full .ro 1) (.lrefl _))
  |cons b L0=>
   have hE:forE l=0:=hE
   rw[hE,if_pos rfl]at hR
   rw[hE,hR]
   have hsm:=hsm b List.mem_cons_self
   have hbl:=hlen b List.mem_cons_self
   have hb0:(zAE (b::L0))[0]? =some (.lst .ro 1 (zE b)):=rfl
   have hpos:0<(b::L0).length:=Nat.succ_pos _
   generalize (b::L0)=L at*
   refine kQ (zk rfl rfl (zA rfl (zA rfl (zB ?_))))
   refine zH [(1,U.box 0 0)] ([SB.box [.lst .ro 1 (zE (Ln.slots l)),.int .i64 (Ln.left l),.int .i64 (Ln.right l),.int .i64 (Ln.run l)]]) (.n1 rfl) rfl fun fr=>?_
   refine k_seq (kQ (kB sh24 rfl (zN rfl (q18) (.lrefl _) (zA rfl (zB (kQ (zC rfl (kr rfl (zB (k_cF rfl rfl ?_))))))))))
   refine zL (kQ (kB sh24 rfl (zN rfl (q62) (.lrefl _) (zA rfl (zB (k_seq (kQ (zC rfl (zq rfl ty42 rfl (List.length_map _) ?_)))))))))
   refine ks rfl (zB ?_)
   refine zH [(1,U.box 0 0),(5,.lst .ro 1 (zAE L)),(19,U.bool (decide (↑(List.length L)=(0:Int))))] ([SB.box [.lst .ro 1 (zE (Ln.slots l)),.int .i64 (Ln.left l),.int .i64 (Ln.right l),.int .i64 (Ln.run l)]]) (.n3 rfl) rfl fun fr=>?_
   refine k_cF rfl (kG (by omega)) (zL (kQ (zA rfl (zB (k_seq (kQ (zA rfl (zB (zI ?_)))))))))
   refine yX (fun kk s3=>∃k:Nat,kk+k=l.slots.length∧s3.st=[.box l.cs]∧Holds s3 [(1,.box 0 0),(5,.lst .ro 1 (zAE L)),(6,accI (memP (fcF l) k)),(7,.int .i64 k)]) (fun kk s3 hJ=>?_) l.slots.length _ ⟨0,rfl,rfl,.c4 rfl rfl rfl rfl (.nil rfl)⟩
   obtain⟨k,hkk,hst3,hs3⟩:=hJ
   have hml:=zBF (fcF l) k
   have hsu:=zBc (fcF l) k
   by_cases hin:k<l.slots.length
   ·have hsk:=hsm k hin
    obtain⟨t,ht⟩:∃t,l.slots[k]? =some t:=⟨l.slots[k],List.getElem?_eq_getElem hin⟩
    have hat:at' l.slots k=t:=by unfold at';rw[ht];rfl
    obtain⟨y0,hy0⟩:∃y,b[k]? =some y:=⟨b[k],List.getElem?_eq_getElem (by omega)⟩
    have hby:at' b k=y0:=by unfold at';rw[hy0];rfl
    rw[hat]at hsk
    generalize memP (fcF l) k=M at*
    refine zH _ _ hs3 hst3 fun fr3=>?_
    refine k_seq (kQ (zC rfl (kw rfl zS (kA sh22 rfl (zq rfl ty22 rfl (List.length_map _) ?_)))))
    refine kp rfl (zB (k_cT rfl (kF (by omega)) (zL (k_seq (zI (kQ (kw rfl zS (kA sh22 rfl (zC rfl (yA (u:=.int .i64 (t)) rfl ty22 rfl rfl (Int.natCast_nonneg _) (by simp[ht]) cl3 ?_))))))))))
    refine kC sh3 rfl ?_
    refine o_geq rfl rfl rfl (zA rfl (zB (k_seq (kQ (zA rfl (zB (zI ?_)))))))
    refine yX (fun mm s4=>∃i:Nat,mm+i=L.length∧s4.st=[.box l.cs]∧Holds s4 [(1,.box 0 0),(5,.lst .ro 1 (zAE L)),(6,accI M),(7,.int .i64 k),(8,.bool (samK L b k (decide (t ≥ 0)) i)),(9,.int .i64 i)]) (fun mm s4 hJ=>?_) L.length _ ⟨0,rfl,rfl,.c4 rfl rfl rfl rfl (.n2 rfl)⟩
    obtain⟨i,hmm,hst4,hs4⟩:=hJ
    refine zH _ _ hs4 hst4 fun fr4=>?_
    by_cases hi2:i<L.length
    ·obtain⟨q,hq⟩:∃q,L[i]? =some q:=⟨L[i],List.getElem?_eq_getElem hi2⟩
     have hql:=hlen q (List.mem_of_getElem? hq)
     have hqu:(zAE L)[i]? =some (.lst .ro 1 (zE q)):=by rw[List.getElem?_map,hq];rfl
     obtain⟨y,hy⟩:∃y,q[k]? =some y:=⟨q[k],List.getElem?_eq_getElem (by omega)⟩
     have hqy:at' q k=y:=by unfold at';rw[hy];rfl
     have hss:samK L b k (decide (t ≥ 0)) (i+1)=(samK L b k (decide (t ≥ 0)) i&&decide (y=y0)):=by
      show(_&&decide (at' ((L[i]?).getD []) k=at' b k))=_
      rw[hq,hby]
      show(_&&decide (at' q k=y0))=_
      rw[hqy]
     cases c:samK L b k (decide (t ≥ 0)) i with
     |false=>
      rw[c,Bool.false_and]at hss
      refine k_seq (kQ (zC rfl (zC rfl (zq rfl ty42 rfl (List.length_map _) ?_))))
      refine kp rfl (zB (k_cT rfl (kF (by omega)) (zL (k_seq (zI (yf [.plain,.plain,.plain,.plain,.plain,.read true,.plain,.plain,.read true,.plain,.plain,.read true,.plain,.plain,.read true,.plain,.plain,.plain] (by kernel_rfl) (by kernel_rfl) (by kernel_rfl) ?_))))))
      refine zD (zC rfl (zB rfl)) (zD (zC rfl (zB rfl)) (kj rfl (kj rfl (kj rfl (kj rfl (kj rfl (kj rfl (kj rfl ?_))))))))
      refine zn [(1,U.box 0 0),(5,.lst .ro 1 (zAE L)),(6,accI M),(7,.int .i64 ↑k),(9,.int .i64 ↑i),(40,.bool false)] [] ([SB.box (Ln.cs l)]) (.n6 rfl) rfl rfl fun fr=>?_
      refine kj rfl (kj rfl (kj rfl (kj rfl (kj rfl (kj rfl (kj rfl (zD (kD rfl (zB rfl)) ?_)))))))
      refine zD (zA rfl (zB rfl)) ?_
      refine wm ?_
      refine zH [(1,U.box 0 0),(5,.lst .ro 1 (zAE L)),(6,accI M),(7,.int .i64 ↑k),(8,.bool false),(9,.int .i64 ↑i)] ([SB.box (Ln.cs l)]) (.n6 rfl) rfl fun fr=>?_
      refine k_region (zC rfl ?_)
      refine kz rfl (by unfold I64;omega) (zA rfl (zB ?_))
      exact⟨mm - 1,by omega,i+1,by omega,rfl,.c4 rfl rfl rfl rfl (.cons (by rw[hss];rfl) (.n1 rfl))⟩
     |true=>
      rw[c,Bool.true_and]at hss
      refine k_seq (kQ (zC rfl (zC rfl (zq rfl ty42 rfl (List.length_map _) ?_))))
      refine kp rfl (zB (k_cT rfl (kF (by omega)) (zL (k_seq (zI (yf [.plain,.plain,.plain,.plain,.plain,.read true,.plain,.plain,.read true,.plain,.plain,.read true,.plain,.plain,.read true,.plain,.plain,.plain] (by kernel_rfl) (by kernel_rfl) (by kernel_rfl) ?_))))))
      refine zD (zC rfl (zB rfl)) (zD (zC rfl (zB rfl)) (kl rfl (zD (zC rfl (zB rfl)) (kl rfl (zD (zC rfl (zB rfl)) (kl rfl (zD (yA (u:=.lst .ro 1 (zE q)) rfl ty42 rfl rfl (Int.natCast_nonneg _) hqu cl22 (zB rfl)) ?_)))))))
      refine kl rfl (zf rfl (kC sh22 rfl (zB rfl)) ?_)
      refine kl rfl (zD (zC rfl (zB rfl)) (kl rfl (zD (yA (u:=.int .i64 y) rfl ty22 rfl rfl (Int.natCast_nonneg _) (by simp[hy]) cl3 (zB rfl)) ?_)))
      refine kl rfl (zf rfl (kC sh3 rfl (zB rfl)) ?_)
      refine zn [(1,U.box 0 0),(5,.lst .ro 1 (zAE L)),(6,accI M),(7,.int .i64 ↑k),(9,.int .i64 ↑i),(40,.bool true),(47,.int .i64 y)] [] ([SB.box (Ln.cs l)]) (.n7 rfl) rfl rfl fun fr=>?_
      refine kl rfl ?_
      refine zn [(1,U.box 0 0),(5,.lst .ro 1 (zAE L)),(6,accI M),(7,.int .i64 ↑k),(9,.int .i64 ↑i),(40,.bool true),(47,.int .i64 y)] [] ([SB.box (Ln.cs l)]) (.n7 rfl) rfl rfl fun fr=>?_
      refine zD (zC rfl (zB rfl)) (kl rfl (zD (yA (u:=.lst .ro 1 (zE b)) rfl ty42 rfl rfl (by decide) hb0 cl22 (zB rfl)) ?_))
      refine kl rfl (zf rfl (kC sh22 rfl (zB rfl)) ?_)
      refine kl rfl (zD (zC rfl (zB rfl)) (kl rfl (zD (yA (u:=.int .i64 y0) rfl ty22 rfl rfl (Int.natCast_nonneg _) (by simp[hy0]) cl3 (zB rfl)) ?_)))
      refine kl rfl (zf rfl (kC sh3 rfl (zB rfl)) ?_)
      refine kl rfl (zD (ks rfl (zB rfl)) ?_)
      refine zD (kE rfl (zB rfl)) ?_
      refine zD (zA rfl (zB rfl)) ?_
      refine wm ?_
      refine zH [(1,U.box 0 0),(5,.lst .ro 1 (zAE L)),(6,accI M),(7,.int .i64 ↑k),(8,U.bool (decide (y=y0))),(9,.int .i64 ↑i)] ([SB.box (Ln.cs l)]) (.n6 rfl) rfl fun fr=>?_
      refine k_region (zC rfl ?_)
      refine kz rfl (by unfold I64;omega) (zA rfl (zB ?_))
      exact⟨mm - 1,by omega,i+1,by omega,rfl,.c4 rfl rfl rfl rfl (.cons (by rw[hss];rfl) (.n1 rfl))⟩
    ·have hie:i=L.length:=by omega
     subst hie
     rw[hsk]
     cases c:fcF l k with
     |false=>
      rw[if_neg (by rw[c];decide),List.append_nil]at hsu
      refine k_seq (kQ (zC rfl (zC rfl (zq rfl ty42 rfl (List.length_map _) ?_))))
      refine kp rfl (zB (k_cF rfl (kG (by omega)) (zj (kQ (zC rfl (zB (k_cF rfl rfl ?_)))))))
      refine zL (k_region (zC rfl ?_))
      refine kz rfl (by unfold I64;omega) (zA rfl (zB ?_))
      exact⟨kk - 1,by omega,k+1,by omega,rfl,.cons rfl (.cons rfl (.cons (by rw[hsu];rfl) (.n1 rfl)))⟩
     |true=>
      rw[if_pos c]at hsu
      cases M with
      |nil=>
       refine k_seq (kQ (zC rfl (zC rfl (zq rfl ty42 rfl (List.length_map _) ?_))))
       refine kp rfl (zB (k_cF rfl (kG (by omega)) (zj (kQ (zC rfl (zB (k_cT rfl rfl ?_)))))))
       refine k_region (zC rfl (zC rfl (zBn (es:=[.int .i64 ↑k]) rfl ty22 ze3 cl3 rfl rfl rfl rfl rfl rfl rfl rfl ?_)))
       refine wu rfl wT rfl rfl (by simp) (by simp) (by simp[yJ,zZ,oneU]) (by simp) ?_
       refine zA rfl (zB (k_region (zC rfl ?_)))
       refine kz rfl (by unfold I64;omega) (zA rfl (zB ?_))
       exact⟨kk - 1,by omega,k+1,by omega,rfl,.cons rfl (.cons rfl (.cons (by rw[hsu];rfl) (.n1 rfl)))⟩
      |cons y M=>
       refine k_seq (kQ (zC rfl (zC rfl (zq rfl ty42 rfl (List.length_map _) ?_))))
       refine kp rfl (zB (k_cF rfl (kG (by omega)) (zj (kQ (zC rfl (zB (k_cT rfl rfl ?_)))))))
       refine k_region (zC rfl (zC rfl (zBn (es:=[.int .i64 ↑k]) rfl ty22 ze3 cl3 rfl rfl rfl rfl rfl rfl rfl rfl ?_)))
       refine wt 6 rfl wT rfl rfl rfl (by simp) (by simp) (by simp[yJ,zZ,oneU]) (by simp at hml ⊢;omega) ?_
       refine zA rfl (zB (k_region (zC rfl ?_)))
       refine kz rfl (by unfold I64;omega) (zA rfl (zB ?_))
       exact⟨kk - 1,by omega,k+1,by omega,rfl,.cons rfl (.cons rfl (.cons (by rw[hsu,zAg];rfl) (.n1 rfl)))⟩
   ·have hie:k=l.slots.length:=by omega
    subst hie
    generalize memP (fcF l) l.slots.length=M at*
    refine zH _ _ hs3 hst3 fun fr3=>?_
    refine k_seq (kQ (zC rfl (kw rfl zS (kA sh22 rfl (zq rfl ty22 rfl (List.length_map _) ?_)))))
    refine kp rfl (zB (k_cF rfl (kG (by omega)) (zj (kQ ?_))))
    refine o_weak 6 rfl (fun _=>rfl) (u:=.lst .ro 1 (zE M)) (accI_ro3 M) ?_
    refine zC rfl (zA rfl (zA rfl (zB (zV ?_))))
    refine⟨.inr rfl,_,.cons _ _ _ _ (.tmp 2) (.cons _ _ _ _ (.tmp 3) .nil),?_⟩
    exact .refl _
end
section
variable {is:FuncId→Bool}{orc:Known}{l:Ln}
noncomputable def b3:Code:=(Tryd.f3.body).getD .skip
theorem body3:bodyOf Tryd.prog 3=some (98,b3,[.tmp 4]):=by kernel_rfl
theorem pure3:pureFn Tryd.prog 3=true:=by kernel_rfl
set_option maxHeartbeats 16000000 in
theorem ret15j(hi:Off is)(hv:zz l=false)(p:List Int):RetP Tryd.prog is orc 15 [l.u,.lst .ro 1 (zE p)] (.tup [.bool false,.int .i64 70]):=by
 refine zw body15 pure15 (hi 15 (by decide)) rfl rfl (yq (yk l 5) (yG 6 .ro (fun h=>by cases h) 1 p)) (.inr ⟨_,rfl,yq (.bool _ _) (.int _ _ _)⟩) ?_
 have q56:=ask0 (orc:=orc) hi l
 rw[hv,if_neg (by decide)]at q56
 refine kQ (zk rfl rfl (zA rfl (zA rfl (zB ?_))))
 refine zH [(1,.lst .ro 1 (zE p)),(2,U.box 0 0)] ([SB.box [.lst .ro 1 (zE (Ln.slots l)),.int .i64 (Ln.left l),.int .i64 (Ln.right l),.int .i64 (Ln.run l)]]) (.n2 rfl) rfl fun fr=>?_
 refine k_seq (kQ (kB sh24 rfl (zN rfl (q56) (.lcons _ _ _ _ (.refl _) (.lcons _ _ _ _ (.nil .full .ro 1) (.lrefl _))) ?_)))
 refine zA rfl (zB (kQ (zC rfl (kr rfl (zB (k_cT rfl rfl ?_))))))
 refine kQ (zC rfl (zA rfl (zA rfl (zB (zV ?_)))))
 refine⟨.inr rfl,_,.cons _ _ _ _ (.tmp 4) (.cons _ _ _ _ (.tmp 5) .nil),?_⟩
 exact .refl _
theorem ret15a(hi:Off is)(l:Ln)(p:List Int):RetP Tryd.prog is orc 15 [l.u,.lst .ro 1 (zE p)] (.tup [.bool (isB l p),.int .i64 (manE l)]):=by
 unfold isB manE
 cases hv:zz l with
 |false=>rw[if_neg (by decide),Bool.false_and];exact ret15j hi hv p
 |true=>rw[if_pos rfl,Bool.true_and];exact ret15 hi (yl.1 hv) p
theorem splR_len(l:Ln):(splR l).length≤4096:=by
 cases hv:zz l with
 |false=>
  have e:splE l=70:=by unfold splE;rw[hv];rfl
  unfold splR
  rw[e,if_neg (by decide)];exact Nat.zero_le _
 |true=>
  have h:=yl.1 hv
  have:=h.n
  unfold splR
  by_cases c:splE l=0
  ·rw[if_pos c]
   cases hb:bstO (splL l)with
   |none=>exact Nat.zero_le _
   |some b=>have:=zDr h (some_spl hb).1;show b.length≤4096;omega
  ·rw[if_neg c];exact Nat.zero_le _
theorem forR_len(l:Ln):(forR l).length≤4096:=by
 unfold forR
 by_cases c:forE l=0
 ·rw[if_pos c];exact Nat.le_trans (zBF _ _) (by decide)
 ·rw[if_neg c];exact Nat.zero_le _
set_option maxHeartbeats 16000000 in
theorem ret3(hi:Off is)(l:Ln)(p:List Int)(r26:RetP Tryd.prog is orc 26 [] (.bool true)):RetP Tryd.prog is orc 3 [l.u,.lst .ro 1 (zE p)] (.bool true):=by
 refine zw body3 pure3 (hi 3 (by decide)) rfl rfl (yq (yk l 5) (yG 6 .ro (fun h=>by cases h) 1 p)) (.inl (.bool _ _)) ?_
 have q15:=ret15a (orc:=orc) hi l p
 have q16:=ret16 (orc:=orc) hi l p
 have q17:=ret17 (orc:=orc) hi l
 have q18:=ret18 (orc:=orc) hi l
 have q19:=ret19 (orc:=orc) hi l
 have q20:=ret20 (orc:=orc) hi l
 have q21:=ret21 (orc:=orc) hi l
 have q22:=ret22 (orc:=orc) hi l
 have q24:=ret24 (orc:=orc) hi l
 have q25:=ret25 (orc:=orc) hi l
 have q23a:=ret23 (orc:=orc) hi (splR l) (splR_len l)
 have q23b:=ret23 (orc:=orc) hi (forR l) (forR_len l)
 have k1:∀E:Int,decide (E≠E)=false:=fun E=>kG (fun h=>h rfl)
 have k2:=k1 (manE l)
 have k3:=k1 (if zz l=true then 0 else 70)
 have k4:=k1 (manN l:Nat)
 have k5:=k1 (splE l)
 have k6:decide (forE l=forE l)=true:=kF rfl
 have k7:decide (isB l p≠isB l p)=false:=kG (fun h=>h rfl)
 clear k1
 generalize isB l p=B1 at*
 generalize manE l=E1 at*
 generalize manN l=N1 at*
 generalize splE l=E2 at*
 generalize forE l=E3 at*
 generalize splR l=S at*
 generalize forR l=R at*
 generalize (if zz l=true then(0:Int)else 70)=E4 at*
 cases B1 with
 |false=>
  refine kQ (zk rfl rfl (zA rfl (zB ?_)))
  refine zH [(1,.lst .ro 1 (zE p)),(2,U.box 0 0)] ([SB.box [.lst .ro 1 (zE (Ln.slots l)),.int .i64 (Ln.left l),.int .i64 (Ln.right l),.int .i64 (Ln.run l)]]) (.n2 rfl) rfl fun fr=>?_
  refine kQ (kB sh24 rfl (zC rfl (zN rfl (q15) (.lrefl _) (zC rfl (ku rfl (ku rfl (zA rfl (zA rfl (zB (kQ (kB sh24 rfl (zC rfl (zN rfl (q16) (.lrefl _) (zC rfl (ku rfl ?_)))))))))))))))
  refine ku rfl (zA rfl (zA rfl (zB ?_)))
  refine zH [(2,U.box 0 0),(5,.bool false),(6,.int .i64 E1),(7,.bool false),(8,.int .i64 E1)] ([SB.box [.lst .ro 1 (zE (Ln.slots l)),.int .i64 (Ln.left l),.int .i64 (Ln.right l),.int .i64 (Ln.run l)]]) (.n5 rfl) rfl fun fr=>?_
  refine k_seq (k_seq (yf [.plain,.plain,.plain,.plain,.plain,.plain,.plain,.plain,.plain,.read true,.read false,.read true,.plain,.plain,.plain] (by kernel_rfl) (by kernel_rfl) (by kernel_rfl) ?_))
  refine zD (zC rfl (zB rfl)) (zD (zC rfl (zB rfl)) (zD (o_neqB rfl ty4 rfl rfl (zB rfl)) ?_))
  refine zD (zC rfl (zB rfl)) (kl rfl (zD (zC rfl (zB rfl)) (kl rfl (zD (zC rfl (zB rfl)) (kl rfl (zD (kr rfl (zB rfl)) ?_))))))
  refine zD (kD rfl (zB rfl)) ?_
  refine zD (zC rfl (zB rfl)) ?_
  refine zn [(2,U.box 0 0),(33,U.bool (decide (E1≠E1)))] [] ([SB.box [.lst .ro 1 (zE (Ln.slots l)),.int .i64 (Ln.left l),.int .i64 (Ln.right l),.int .i64 (Ln.run l)]]) (.n2 rfl) rfl rfl fun fr=>?_
  refine kn rfl (by assumption) ?_
  refine zn [(2,U.box 0 0),(33,U.bool (decide (E1≠E1)))] [] ([SB.box [.lst .ro 1 (zE (Ln.slots l)),.int .i64 (Ln.left l),.int .i64 (Ln.right l),.int .i64 (Ln.run l)]]) (.n2 rfl) rfl rfl fun fr=>?_
  refine zf rfl (kB sh24 rfl (zB rfl)) ?_
  refine kn rfl (by assumption) ?_
  refine zCY rfl (q17) (.int _ _) (.lrefl _) ?_
  refine kn rfl (by assumption) ?_
  refine zf rfl (kB sh24 rfl (zB rfl)) ?_
  refine kn rfl (by assumption) ?_
  refine zD (zN rfl (q18) (.lrefl _) (zB rfl)) ?_
  refine kn rfl (by assumption) ?_
  refine zD (kr rfl (zB rfl)) ?_
  refine zD (zAO rfl rfl (by assumption) (zB rfl)) ?_
  refine wm ?_
  refine zH [(2,U.box 0 0),(39,U.bool (decide (E4≠E4)))] ([SB.box [.lst .ro 1 (zE (Ln.slots l)),.int .i64 (Ln.left l),.int .i64 (Ln.right l),.int .i64 (Ln.run l)]]) (.n2 rfl) rfl fun fr=>?_
  refine k_cF rfl (by assumption) (zL (kQ (kB sh24 rfl (zN rfl (q19) (.lrefl _) (zC rfl (ku rfl (ku rfl (zA rfl (zA rfl (zB (kQ (kB sh24 rfl (zN rfl (q20) (.lrefl _) (zC rfl (ku rfl ?_)))))))))))))))
  refine ku rfl (zA rfl (zA rfl (zB ?_)))
  refine zH [(2,U.box 0 0),(6,.int .i64 E1),(8,.int .i64 E1),(9,.int .i64 ↑N1),(10,.int .i64 ↑N1)] ([SB.box [.lst .ro 1 (zE (Ln.slots l)),.int .i64 (Ln.left l),.int .i64 (Ln.right l),.int .i64 (Ln.run l)]]) (.n5 rfl) rfl fun fr=>?_
  refine k_seq (kQ (zC rfl (zC rfl (kr rfl (zC rfl (kh rfl (by assumption) (zC rfl (kh rfl (by assumption) (zC rfl (kh rfl (by assumption) (kr rfl (zAO rfl rfl (by assumption) ?_))))))))))))
  refine zB (k_cF rfl (by assumption) (zL (kQ (kB sh24 rfl (zN rfl (q21) (.lrefl _) (zC rfl (ku rfl (ku rfl (zA rfl (zA rfl (zB ?_)))))))))))
  refine zH [(2,U.box 0 0),(6,.int .i64 E2),(11,.lst .ro 1 (zE S))] ([SB.box [.lst .ro 1 (zE (Ln.slots l)),.int .i64 (Ln.left l),.int .i64 (Ln.right l),.int .i64 (Ln.run l)]]) (.n3 rfl) rfl fun fr=>?_
  refine kQ (kB sh24 rfl (zN rfl (q22) (.lrefl _) (zC rfl (ku rfl (ku rfl (zA rfl (zA rfl (zB (k_seq (kQ (zC rfl (zC rfl (zN rfl (q23a) (.lrefl _) (yc rfl rfl (zC rfl ?_)))))))))))))))
  refine kf rfl (zC rfl (kf rfl (zC rfl (kf rfl (kr rfl (kD rfl ?_))))))
  refine zB ?_
  refine zH [(2,U.box 0 0),(76,U.bool (decide (E2≠E2)))] ([SB.box [.lst .ro 1 (zE (Ln.slots l)),.int .i64 (Ln.left l),.int .i64 (Ln.right l),.int .i64 (Ln.run l)]]) (.n2 rfl) rfl fun fr=>?_
  refine k_cF rfl (by assumption) (zL (kQ (kB sh24 rfl (zN rfl (q24) (.lrefl _) (zC rfl (ku rfl (ku rfl (zA rfl (zA rfl (zB (kQ (kB sh24 rfl (zN rfl (q25) (.lrefl _) (zC rfl (ku rfl ?_)))))))))))))))
  refine ku rfl (zA rfl (zA rfl (zB ?_)))
  refine zH [(6,.int .i64 E3),(8,.int .i64 E3),(11,.lst .ro 1 (zE R)),(12,.lst .ro 1 (zE R))] ([SB.box [.lst .ro 1 (zE (Ln.slots l)),.int .i64 (Ln.left l),.int .i64 (Ln.right l),.int .i64 (Ln.run l)]]) (.n4 rfl) rfl fun fr=>?_
  refine kQ (zC rfl (zC rfl (zN rfl (q23b) (.lrefl _) (zC rfl (kf rfl (zC rfl (kf rfl (zC rfl (kf rfl (ks rfl (kE rfl ?_)))))))))))
  refine zC rfl (kh rfl (by assumption) (zN rfl (r26) (.lrefl _) (wq rfl rfl (by assumption) ?_)))
  refine zA rfl (zB (zV ?_))
  refine⟨.inr rfl,_,.cons _ _ _ _ (.tmp 4) .nil,?_⟩
  exact .refl _
 |true=>
  refine kQ (zk rfl rfl (zA rfl (zB ?_)))
  refine zH [(1,.lst .ro 1 (zE p)),(2,U.box 0 0)] ([SB.box [.lst .ro 1 (zE (Ln.slots l)),.int .i64 (Ln.left l),.int .i64 (Ln.right l),.int .i64 (Ln.run l)]]) (.n2 rfl) rfl fun fr=>?_
  refine kQ (kB sh24 rfl (zC rfl (zN rfl (q15) (.lrefl _) (zC rfl (ku rfl (ku rfl (zA rfl (zA rfl (zB (kQ (kB sh24 rfl (zC rfl (zN rfl (q16) (.lrefl _) (zC rfl (ku rfl ?_)))))))))))))))
  refine ku rfl (zA rfl (zA rfl (zB ?_)))
  refine zH [(2,U.box 0 0),(5,.bool true),(6,.int .i64 E1),(7,.bool true),(8,.int .i64 E1)] ([SB.box [.lst .ro 1 (zE (Ln.slots l)),.int .i64 (Ln.left l),.int .i64 (Ln.right l),.int .i64 (Ln.run l)]]) (.n5 rfl) rfl fun fr=>?_
  refine k_seq (k_seq (yf [.plain,.plain,.plain,.plain,.plain,.plain,.plain,.plain,.plain,.read true,.read false,.read true,.plain,.plain,.plain] (by kernel_rfl) (by kernel_rfl) (by kernel_rfl) ?_))
  refine zD (zC rfl (zB rfl)) (zD (zC rfl (zB rfl)) (zD (o_neqB rfl ty4 rfl rfl (zB rfl)) ?_))
  refine zD (zC rfl (zB rfl)) (kl rfl (zD (zC rfl (zB rfl)) (kl rfl (zD (zC rfl (zB rfl)) (kl rfl (zD (kr rfl (zB rfl)) ?_))))))
  refine zD (kD rfl (zB rfl)) ?_
  refine zD (zC rfl (zB rfl)) ?_
  refine zn [(2,U.box 0 0),(33,U.bool (decide (E1≠E1)))] [] ([SB.box [.lst .ro 1 (zE (Ln.slots l)),.int .i64 (Ln.left l),.int .i64 (Ln.right l),.int .i64 (Ln.run l)]]) (.n2 rfl) rfl rfl fun fr=>?_
  refine kn rfl (by assumption) ?_
  refine zn [(2,U.box 0 0),(33,U.bool (decide (E1≠E1)))] [] ([SB.box [.lst .ro 1 (zE (Ln.slots l)),.int .i64 (Ln.left l),.int .i64 (Ln.right l),.int .i64 (Ln.run l)]]) (.n2 rfl) rfl rfl fun fr=>?_
  refine zf rfl (kB sh24 rfl (zB rfl)) ?_
  refine kn rfl (by assumption) ?_
  refine zCY rfl (q17) (.int _ _) (.lrefl _) ?_
  refine kn rfl (by assumption) ?_
  refine zf rfl (kB sh24 rfl (zB rfl)) ?_
  refine kn rfl (by assumption) ?_
  refine zD (zN rfl (q18) (.lrefl _) (zB rfl)) ?_
  refine kn rfl (by assumption) ?_
  refine zD (kr rfl (zB rfl)) ?_
  refine zD (zAO rfl rfl (by assumption) (zB rfl)) ?_
  refine wm ?_
  refine zH [(2,U.box 0 0),(39,U.bool (decide (E4≠E4)))] ([SB.box [.lst .ro 1 (zE (Ln.slots l)),.int .i64 (Ln.left l),.int .i64 (Ln.right l),.int .i64 (Ln.run l)]]) (.n2 rfl) rfl fun fr=>?_
  refine k_cF rfl (by assumption) (zL (kQ (kB sh24 rfl (zN rfl (q19) (.lrefl _) (zC rfl (ku rfl (ku rfl (zA rfl (zA rfl (zB (kQ (kB sh24 rfl (zN rfl (q20) (.lrefl _) (zC rfl (ku rfl ?_)))))))))))))))
  refine ku rfl (zA rfl (zA rfl (zB ?_)))
  refine zH [(2,U.box 0 0),(6,.int .i64 E1),(8,.int .i64 E1),(9,.int .i64 ↑N1),(10,.int .i64 ↑N1)] ([SB.box [.lst .ro 1 (zE (Ln.slots l)),.int .i64 (Ln.left l),.int .i64 (Ln.right l),.int .i64 (Ln.run l)]]) (.n5 rfl) rfl fun fr=>?_
  refine k_seq (kQ (zC rfl (zC rfl (kr rfl (zC rfl (kh rfl (by assumption) (zC rfl (kh rfl (by assumption) (zC rfl (kh rfl (by assumption) (kr rfl (zAO rfl rfl (by assumption) ?_))))))))))))
  refine zB (k_cF rfl (by assumption) (zL (kQ (kB sh24 rfl (zN rfl (q21) (.lrefl _) (zC rfl (ku rfl (ku rfl (zA rfl (zA rfl (zB ?_)))))))))))
  refine zH [(2,U.box 0 0),(6,.int .i64 E2),(11,.lst .ro 1 (zE S))] ([SB.box [.lst .ro 1 (zE (Ln.slots l)),.int .i64 (Ln.left l),.int .i64 (Ln.right l),.int .i64 (Ln.run l)]]) (.n3 rfl) rfl fun fr=>?_
  refine kQ (kB sh24 rfl (zN rfl (q22) (.lrefl _) (zC rfl (ku rfl (ku rfl (zA rfl (zA rfl (zB (k_seq (kQ (zC rfl (zC rfl (zN rfl (q23a) (.lrefl _) (yc rfl rfl (zC rfl ?_)))))))))))))))
  refine kf rfl (zC rfl (kf rfl (zC rfl (kf rfl (kr rfl (kD rfl ?_))))))
  refine zB ?_
  refine zH [(2,U.box 0 0),(76,U.bool (decide (E2≠E2)))] ([SB.box [.lst .ro 1 (zE (Ln.slots l)),.int .i64 (Ln.left l),.int .i64 (Ln.right l),.int .i64 (Ln.run l)]]) (.n2 rfl) rfl fun fr=>?_
  refine k_cF rfl (by assumption) (zL (kQ (kB sh24 rfl (zN rfl (q24) (.lrefl _) (zC rfl (ku rfl (ku rfl (zA rfl (zA rfl (zB (kQ (kB sh24 rfl (zN rfl (q25) (.lrefl _) (zC rfl (ku rfl ?_)))))))))))))))
  refine ku rfl (zA rfl (zA rfl (zB ?_)))
  refine zH [(6,.int .i64 E3),(8,.int .i64 E3),(11,.lst .ro 1 (zE R)),(12,.lst .ro 1 (zE R))] ([SB.box [.lst .ro 1 (zE (Ln.slots l)),.int .i64 (Ln.left l),.int .i64 (Ln.right l),.int .i64 (Ln.run l)]]) (.n4 rfl) rfl fun fr=>?_
  refine kQ (zC rfl (zC rfl (zN rfl (q23b) (.lrefl _) (zC rfl (kf rfl (zC rfl (kf rfl (zC rfl (kf rfl (ks rfl (kE rfl ?_)))))))))))
  refine zC rfl (kh rfl (by assumption) (zN rfl (r26) (.lrefl _) (wq rfl rfl (by assumption) ?_)))
  refine zA rfl (zB (zV ?_))
  refine⟨.inr rfl,_,.cons _ _ _ _ (.tmp 4) .nil,?_⟩
  exact .refl _
end
end Go.Proofs.YthhbfbmfhldbaaaDoor.locks
