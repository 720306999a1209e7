import Derived.Test.YthhbfbmfhldbaaaDoorVamT24
set_option linter.unusedVariables false
set_option linter.unusedSimpArgs false
set_option linter.constructorNameAsVariable false
namespace Go.Proofs.YthhbfbmfhldbaaaDoor.locks
open Vam
section
variable {is:FuncId→Bool}{orc:Known}{l:Ln}
theorem bit_nat(v t:Nat):bitI (v:Int) (t:Int)=v.testBit t:=by
 unfold bitI
 rw[Nat.testBit_eq_decide_div_mod_eq,Int.toNat_natCast,Int.fdiv_eq_ediv_of_nonneg _ (Int.le_of_lt (Int.pow_pos (by decide))),show(2:Int) ^ t=((2 ^ t:Nat):Int) by rw[Int.natCast_pow];rfl,←Int.natCast_ediv]
 exact decide_eq_decide.2 (by omega)
theorem bits_ex:∀(n:Nat) (f:Nat→Bool),∃a,a<2 ^ n∧∀i,i<n→a.testBit i=f i:=by
 intro n
 induction n with
 |zero=>exact fun f=>⟨0,by decide,fun i h=>by omega⟩
 |succ n ih=>
  intro f
  obtain⟨a,h1,h2⟩:=ih f
  cases c:f n with
  |false=>
   refine⟨a,Nat.lt_trans h1 (Nat.pow_lt_pow_right (by decide) (by omega)),fun i hi=>?_⟩
   by_cases e:i=n
   ·subst e;rw[c];exact Nat.testBit_lt_two_pow h1
   ·exact h2 i (by omega)
  |true=>
   refine⟨2 ^ n+a,by rw[Nat.pow_succ];omega,fun i hi=>?_⟩
   by_cases e:i=n
   ·subst e;rw[c,Nat.testBit_two_pow_add_eq,Nat.testBit_lt_two_pow h1];rfl
   ·rw[Nat.testBit_two_pow_add_gt (by omega)];exact h2 i (by omega)
theorem max_such(P:Nat→Prop):∀n,(∃i,i<n∧P i)→∃i,i<n∧P i∧∀j,i<j→j<n→ ¬ P j:=by
 intro n
 induction n with
 |zero=>rintro⟨i,h,_⟩;omega
 |succ n ih=>
  rintro⟨i,hi,hp⟩
  rcases Classical.em (P n)with c|c
  ·exact⟨n,by omega,c,fun j h1 h2=>by omega⟩
  ·have hin:i≠n:=fun e=>c (e ▸ hp)
   obtain⟨k,k1,k2,k3⟩:=ih ⟨i,by omega,hp⟩
   refine⟨k,by omega,k2,fun j h1 h2=>?_⟩
   by_cases e:j=n
   ·rw[e];exact c
   ·exact k3 j h1 (by omega)
theorem lt_bit{x y i:Nat}(hx:x.testBit i=false)(hy:y.testBit i=true)(h:∀j,i<j→x.testBit j=y.testBit j):x<y:=by
 have e:x / 2 ^ (i+1)=y / 2 ^ (i+1):=Nat.eq_of_testBit_eq fun j=>by
  rw[Nat.testBit_div_two_pow,Nat.testBit_div_two_pow]
  exact h _ (by omega)
 rw[Nat.testBit_eq_decide_div_mod_eq]at hx hy
 have hx:=of_decide_eq_false hx
 have hy:=of_decide_eq_true hy
 rw[Nat.pow_succ,←Nat.div_div_eq_div_mul,←Nat.div_div_eq_div_mul]at e
 have h2:x / 2 ^ i<y / 2 ^ i:=by
  generalize x / 2 ^ i=a at*
  generalize y / 2 ^ i=b at*
  omega
 rcases Nat.lt_or_ge x y with c|c
 ·exact c
 ·have:=Nat.div_le_div_right (c:=2 ^ i) c
  omega
theorem bit_max{a b n:Nat}(h:a<b)(h1:a<2 ^ n)(h2:b<2 ^ n):∃i,i<n∧a.testBit i=false∧b.testBit i=true∧∀j,i<j→a.testBit j=b.testBit j:=by
 have hout:∀j,n≤j→a.testBit j=b.testBit j:=fun j hj=>by
  rw[Nat.testBit_lt_two_pow (Nat.lt_of_lt_of_le h1 (Nat.pow_le_pow_right (by decide) hj)),Nat.testBit_lt_two_pow (Nat.lt_of_lt_of_le h2 (Nat.pow_le_pow_right (by decide) hj))]
 have hex:∃i,i<n∧a.testBit i≠b.testBit i:=by
  refine Classical.byContradiction fun hno=>?_
  have:a=b:=Nat.eq_of_testBit_eq fun i=>by
   by_cases c:i<n
   ·exact Classical.byContradiction fun hne=>hno ⟨i,c,hne⟩
   ·exact hout i (by omega)
  omega
 obtain⟨i,i1,i2,i3⟩:=max_such _ n hex
 have hup:∀j,i<j→a.testBit j=b.testBit j:=fun j hj=>by
  by_cases c:j<n
  ·exact Classical.byContradiction fun hne=>i3 j hj c hne
  ·exact hout j (by omega)
 refine⟨i,i1,?_,?_,hup⟩
 ·cases c:a.testBit i with
  |false=>rfl
  |true=>
   cases d:b.testBit i with
   |true=>rw[c,d]at i2;exact absurd rfl i2
   |false=>have:=lt_bit d c fun j hj=>(hup j hj).symm;omega
 ·cases d:b.testBit i with
  |true=>rfl
  |false=>
   cases c:a.testBit i with
   |false=>rw[c,d]at i2;exact absurd rfl i2
   |true=>have:=lt_bit d c fun j hj=>(hup j hj).symm;omega
def plyI(l:Ln)(v i:Nat):Int:=if at' l.slots i<0 then -1 else if v.testBit (l.slots.length - 1 - i)=true then 1 else 0
def plyL(l:Ln)(v i:Nat):List Int:=(List.range i).map (plyI l v)
def plyB(l:Ln)(v:Nat):Nat→Bool
 |0=>true
 |i+1=>if at' l.slots i<0 then plyB l v i&& !v.testBit (l.slots.length - 1 - i)else plyB l v i
theorem zFU(l:Ln)(v i:Nat):(plyL l v i).length=i:=by unfold plyL;rw[List.length_map,List.length_range]
theorem ply_at{v n i:Nat}(h:i<n):at' (plyL l v n) i=plyI l v i:=by
 unfold at' plyL
 rw[List.getElem?_map,List.getElem?_range h];rfl
theorem ply_succ(l:Ln)(v i:Nat):plyL l v (i+1)=plyL l v i++[plyI l v i]:=by
 unfold plyL
 rw[List.range_succ,List.map_append];rfl
theorem plyB_iff{v:Nat}:∀i,plyB l v i=true↔ ∀j,j<i→at' l.slots j<0→v.testBit (l.slots.length - 1 - j)=false:=by
 intro i
 induction i with
 |zero=>exact⟨fun _ j h=>by omega,fun _=>rfl⟩
 |succ i ih=>
  unfold plyB
  by_cases c:at' l.slots i<0
  ·rw[if_pos c,Bool.and_eq_true,ih,Bool.not_eq_true']
   constructor
   ·rintro⟨h1,h2⟩ j hj hs
    by_cases e:j=i
    ·subst e;exact h2
    ·exact h1 j (by omega) hs
   ·intro h
    exact⟨fun j hj=>h j (by omega),h i (by omega) c⟩
  ·rw[if_neg c,ih]
   constructor
   ·intro h j hj hs
    by_cases e:j=i
    ·subst e;exact absurd hs c
    ·exact h j (by omega) hs
   ·intro h j hj
    exact h j (by omega)
noncomputable def refQ(l:Ln)(v:Nat):Bool:=plyB l v l.slots.length&&divB l (plyL l v l.slots.length)
noncomputable def refL(l:Ln)(m:Nat):List (List Int):=((List.range m).filter (refQ l)).map fun v=>plyL l v l.slots.length
theorem ref_succ(l:Ln)(m:Nat):refL l (m+1)=refL l m++if refQ l m=true then [plyL l m l.slots.length]else []:=by
 unfold refL
 rw[List.range_succ,List.filter_append,List.map_append]
 congr 1
 by_cases c:refQ l m=true
 ·rw[if_pos c,List.filter_cons_of_pos c];rfl
 ·rw[if_neg c,List.filter_cons_of_neg c];rfl
theorem soon_first:∀(a c:List Int) (i:Nat),i<a.length→i<c.length→(∀j,j<i→at' a j=at' c j)→at' a i<at' c i→zAH a c=true:=by
 intro a
 induction a with
 |nil=>intro c i h;exact absurd h (Nat.not_lt_zero _)
 |cons x a ih=>
  intro c i h1 h2 h3 h4
  cases c with
  |nil=>exact absurd h2 (Nat.not_lt_zero _)
  |cons y c=>
   show(if x≠y then decide (x<y)else zAH a c)=true
   cases i with
   |zero=>
    have h4:x<y:=h4
    rw[if_pos (by omega),kF h4]
   |succ i=>
    have h0:x=y:=h3 0 (by omega)
    rw[if_neg (fun hne=>hne h0)]
    exact ih c i (Nat.lt_of_succ_lt_succ h1) (Nat.lt_of_succ_lt_succ h2) (fun j hj=>h3 (j+1) (by omega)) h4
theorem sorted_eq{α:Type}{R:α→α→Prop}(ha:∀a b,R a b→ ¬ R b a):∀{L M:List α},L.Pairwise R→M.Pairwise R→(∀x,x∈L↔x∈M)→L=M:=by
 intro L
 induction L with
 |nil=>
  intro M _ _ h
  cases M with
  |nil=>rfl
  |cons y M=>have:=(h y).2 List.mem_cons_self;cases this
 |cons x L ih=>
  intro M hL hM h
  cases M with
  |nil=>have:=(h x).1 List.mem_cons_self;cases this
  |cons y M=>
   rw[List.pairwise_cons]at hL hM
   have e:x=y:=by
    rcases List.mem_cons.1 ((h x).1 List.mem_cons_self)with e|e
    ·exact e
    ·rcases List.mem_cons.1 ((h y).2 List.mem_cons_self)with e2|e2
     ·exact e2.symm
     ·exact absurd (hM.1 x e) (ha _ _ (hL.1 y e2))
   subst e
   congr 1
   refine ih hL.2 hM.2 fun z=>⟨fun hz=>?_,fun hz=>?_⟩
   ·rcases List.mem_cons.1 ((h z).1 (List.mem_cons_of_mem _ hz))with e|e
    ·subst e;exact absurd (hL.1 z hz) (ha _ _ (hL.1 z hz))
    ·exact e
   ·rcases List.mem_cons.1 ((h z).2 (List.mem_cons_of_mem _ hz))with e|e
    ·subst e;exact absurd (hM.1 z hz) (ha _ _ (hM.1 z hz))
    ·exact e
theorem ref_all(h:VL l):refL l (2 ^ l.slots.length)=splL l:=by
 refine sorted_eq (R:=fun a b=>zAH a b=true) (fun a b h1 h2=>by rw[zFO a b h1]at h2;cases h2) ?_ (zEq l l.slots.length []) fun q=>?_
 ·unfold refL
  refine List.pairwise_map.2 ?_
  have hp:((List.range (2 ^ l.slots.length)).filter (refQ l)).Pairwise (fun a b=>a<b):=List.Pairwise.filter _ List.pairwise_lt_range
  refine hp.imp_of_mem ?_
  intro a b ha hb hab
  obtain⟨a1,a2⟩:=List.mem_filter.1 ha
  obtain⟨b1,b2⟩:=List.mem_filter.1 hb
  have a1:=List.mem_range.1 a1
  have b1:=List.mem_range.1 b1
  obtain⟨i,i1,i2,i3,i4⟩:=bit_max hab a1 b1
  unfold refQ at b2
  rw[Bool.and_eq_true]at b2
  have hs: ¬ at' l.slots (l.slots.length - 1 - i)<0:=fun hs=>by
   have:=(plyB_iff _).1 b2.1 (l.slots.length - 1 - i) (by omega) hs
   rw[show l.slots.length - 1 - (l.slots.length - 1 - i)=i by omega,i3]at this
   cases this
  refine soon_first _ _ (l.slots.length - 1 - i) (by rw[zFU];omega) (by rw[zFU];omega) (fun j hj=>?_) ?_
  ·rw[ply_at (by omega),ply_at (by omega)]
   unfold plyI
   rw[i4 (l.slots.length - 1 - j) (by omega)]
  ·rw[ply_at (by omega),ply_at (by omega)]
   unfold plyI
   rw[if_neg hs,if_neg hs,show l.slots.length - 1 - (l.slots.length - 1 - i)=i by omega,i2,i3]
   decide
 ·unfold refL
  rw[show(q∈splL l↔_)from spl_div h,List.mem_map]
  constructor
  ·rintro⟨v,hv,rfl⟩
   have:=(List.mem_filter.1 hv).2
   unfold refQ at this
   rw[Bool.and_eq_true]at this
   exact this.2
  ·intro hd
   obtain⟨q1,q2,_⟩:=zBS.1 hd
   obtain⟨v,v1,v2⟩:=bits_ex l.slots.length fun i=>decide (at' q (l.slots.length - 1 - i)=1)
   have hv:∀j,j<l.slots.length→v.testBit (l.slots.length - 1 - j)=decide (at' q j=1):=fun j hj=>by
    rw[v2 _ (by omega),show l.slots.length - 1 - (l.slots.length - 1 - j)=j by omega]
   have e:plyL l v l.slots.length=q:=at_ext (by rw[zFU,q1]) fun j hj=>by
    rw[zFU]at hj
    rw[ply_at hj]
    unfold plyI
    rw[hv j hj]
    rcases wn (q2 j hj)with ⟨e1,e2⟩|⟨e1,e2⟩
    ·rw[e2,e1];rfl
    ·have hin:at' l.slots j∈l.slots:=by
      unfold at';rw[List.getElem?_eq_getElem hj];exact List.getElem_mem hj
     have:=h.tn _ hin
     rw[if_neg (by omega)]
     rcases e1 with e1|e1
     ·rw[e1];rfl
     ·rw[e1];rfl
   refine⟨v,List.mem_filter.2 ⟨List.mem_range.2 v1,?_⟩,e⟩
   unfold refQ
   rw[e,hd,Bool.and_true,plyB_iff]
   intro j hj hs
   rw[hv j hj]
   rcases wn (q2 j hj)with ⟨e1,e2⟩|⟨e1,e2⟩
   ·rw[e1];rfl
   ·have hin:at' l.slots j∈l.slots:=by
     unfold at';rw[List.getElem?_eq_getElem hj];exact List.getElem_mem hj
    have:=h.tn _ hin
    omega
end
section
variable {is:FuncId→Bool}{orc:Known}{l:Ln}
noncomputable def b62:Code:=(Tryd.f62.body).getD .skip
theorem body62:bodyOf Tryd.prog 62=some (64,b62,[.tmp 2]):=by kernel_rfl
theorem pure62:pureFn Tryd.prog 62=true:=by kernel_rfl
theorem accI_ro3(L:List Int):UW (.u (accI L)) (.u (.lst .ro 1 (zE L))):=by
 cases L with
 |nil=>exact .nil .full .ro 1
 |cons y L=>exact .ro _ _ _
theorem accL_ro(L:List (List Int)):UW (.u (accL L)) (.u (.lst .ro 1 (zAE L))):=by
 cases L with
 |nil=>exact .nil .full .ro 1
 |cons y L=>exact .ro _ _ _
theorem ref_len(l:Ln)(m:Nat):(refL l m).length≤m:=by
 unfold refL
 rw[List.length_map]
 exact Nat.le_trans (List.length_filter_le _ _) (Nat.le_of_eq List.length_range)
set_option maxHeartbeats 32000000 in
theorem ret62(hi:Off is)(h:VL l):RetP Tryd.prog is orc 62 [l.u] (.lst .ro 1 (zAE (splL l))):=by
 refine zw body62 pure62 (hi 62 (by decide)) rfl rfl (wA (yk l 5)) (.inl (dat_rows _ 5)) ?_
 have hn:=h.n
 have q59:=fun p=>ret59 (orc:=orc) hi h p
 have hpw:(2:Nat) ^ l.slots.length≤65536:=Nat.le_trans (Nat.pow_le_pow_right (by decide) hn.2) (by decide)
 have hpi:((2:Int) ^ l.slots.length)=((2 ^ l.slots.length:Nat):Int):=by rw[Int.natCast_pow];rfl
 rw[←ref_all h]
 refine kQ (zk rfl rfl (zA rfl (zB ?_)))
 refine zH [(1,U.box 0 0)] ([SB.box [.lst .ro 1 (zE (Ln.slots l)),.int .i64 (Ln.left l),.int .i64 (Ln.right l),.int .i64 (Ln.run l)]]) (.n1 rfl) rfl fun fr=>?_
 refine kQ (zA rfl (zB (kQ (kw rfl zS (kA sh22 rfl (zq rfl ty22 rfl (List.length_map _) ?_))))))
 refine zA rfl (zB (k_seq (kQ (zA rfl (zB (zI ?_))))))
 refine yX (fun kk s3=>∃m:Nat,kk+m=2 ^ l.slots.length∧s3.st=[.box l.cs]∧Holds s3 [(1,.box 0 0),(3,accL (refL l m)),(4,.int .i64 l.slots.length),(5,.int .i64 m)]) (fun kk s3 hJ=>?_) (2 ^ l.slots.length) _ ⟨0,rfl,rfl,.c4 rfl rfl rfl rfl (.nil rfl)⟩
 obtain⟨m,hk,hst3,hs3⟩:=hJ
 have hFl:=ref_len l m
 have hFs:=ref_succ l m
 by_cases hm:m<2 ^ l.slots.length
 ·generalize refL l m=F at*
  refine zH _ _ hs3 hst3 fun fr3=>?_
  refine k_seq (kQ (zC rfl (zC rfl (o_shlOne (n:=l.slots.length) rfl rfl rfl (by omega) ?_))))
  refine kp rfl (zB (k_cT rfl (kF (by omega)) (zL (k_seq (zI (kQ (zA rfl (zB (kQ (zA rfl (zB (k_seq (kQ (zA rfl (zB ?_)))))))))))))))
  refine zI ?_
  refine yX (fun mm s4=>∃i:Nat,mm+i=l.slots.length∧s4.st=[.box l.cs]∧Holds s4 [(1,.box 0 0),(3,accL F),(4,.int .i64 l.slots.length),(5,.int .i64 m),(6,accI (plyL l m i)),(7,.bool (plyB l m i)),(8,.int .i64 i)]) (fun mm s4 hJ=>?_) l.slots.length _ ⟨0,rfl,rfl,.c4 rfl rfl rfl rfl (.n3 rfl)⟩
  obtain⟨i,hmm,hst4,hs4⟩:=hJ
  by_cases hin:i<l.slots.length
  ·obtain⟨t,ht⟩:∃t,l.slots[i]? =some t:=⟨l.slots[i],List.getElem?_eq_getElem hin⟩
   have hat:at' l.slots i=t:=by unfold at';rw[ht];rfl
   have hPs:=ply_succ l m i
   have hBs:plyB l m (i+1)=if at' l.slots i<0 then plyB l m i&& !m.testBit (l.slots.length - 1 - i)else plyB l m i:=rfl
   have hpI:plyI l m i=if at' l.slots i<0 then -1 else if m.testBit (l.slots.length - 1 - i)=true then 1 else 0:=rfl
   rw[hat]at hBs hpI
   have hml:=zFU l m i
   have q50:=ret50 (orc:=orc) hi (s:=(m:Int)) (t:=(l.slots.length:Int) - 1 - i) (by omega) (by omega)
   have hbb:bitI (m:Int) ((l.slots.length:Int) - 1 - i)=m.testBit (l.slots.length - 1 - i):=by
    rw[show(l.slots.length:Int) - 1 - i=((l.slots.length - 1 - i:Nat):Int) by omega,bit_nat]
   rw[hbb]at q50
   generalize m.testBit (l.slots.length - 1 - i)=z at*
   generalize plyL l m i=M at*
   generalize plyB l m i=Bz at*
   refine zH _ _ hs4 hst4 fun fr4=>?_
   refine k_seq (kQ (zC rfl (zC rfl (kp rfl (zB (k_cT rfl (kF (by omega)) (zL (k_seq (zI (kQ (zC rfl (zC rfl ?_))))))))))))
   refine o_sub rfl rfl rfl (by unfold I64;omega) (zC rfl ?_)
   refine o_sub rfl rfl rfl (by unfold I64;omega) (zN rfl (q50) (.lrefl _) (zA rfl (zB (zI ?_))))
   by_cases c:t<0
   ·rw[if_pos c]at hBs hpI
    rw[hpI]at hPs
    cases Bz with
    |false=>
     rw[Bool.false_and]at hBs
     cases M with
     |nil=>
      refine kQ (kw rfl zS (kA sh22 rfl (zC rfl (yA (u:=.int .i64 (t)) rfl ty22 rfl rfl (Int.natCast_nonneg _) (by simp[ht]) cl3 ?_))))
      refine kC sh3 rfl ?_
      refine kp rfl (zA rfl (zB (k_cT rfl (kF (by omega)) (kQ (zC rfl (zC rfl (ke rfl (ke rfl (kD rfl ?_)))))))))
      refine zA rfl (zB ?_)
      refine zH [(1,U.box 0 0),(3,accL F),(4,.int .i64 ↑(List.length (Ln.slots l))),(5,.int .i64 ↑m),(6,accI []),(7,.bool false),(8,.int .i64 ↑i)] ([SB.box (Ln.cs l)]) (.n7 rfl) rfl fun fr=>?_
      refine k_region (zC rfl (zBn (es:=[_]) rfl ty22 ze3 cl3 rfl rfl rfl rfl rfl rfl rfl rfl ?_))
      refine wu rfl wT rfl rfl (by simp) (by simp) rfl (by simp) ?_
      refine zA rfl (zB (k_region (zC rfl ?_)))
      refine kz rfl (by unfold I64;omega) (zA rfl (zB ?_))
      exact⟨mm - 1,by omega,i+1,by omega,rfl,.c4 rfl rfl rfl rfl (.cons (by rw[hPs];rfl) (.cons (by rw[hBs];rfl) (.n1 rfl)))⟩
     |cons y M=>
      refine kQ (kw rfl zS (kA sh22 rfl (zC rfl (yA (u:=.int .i64 (t)) rfl ty22 rfl rfl (Int.natCast_nonneg _) (by simp[ht]) cl3 ?_))))
      refine kC sh3 rfl ?_
      refine kp rfl (zA rfl (zB (k_cT rfl (kF (by omega)) (kQ (zC rfl (zC rfl (ke rfl (ke rfl (kD rfl ?_)))))))))
      refine zA rfl (zB (k_region (zC rfl (zBn (es:=[_]) rfl ty22 ze3 cl3 rfl rfl rfl rfl rfl rfl rfl rfl ?_))))
      refine wt 6 rfl wT rfl rfl rfl (by simp) (by simp) rfl (by simp at hml ⊢;omega) ?_
      refine zA rfl (zB (k_region (zC rfl ?_)))
      refine kz rfl (by unfold I64;omega) (zA rfl (zB ?_))
      exact⟨mm - 1,by omega,i+1,by omega,rfl,.c4 rfl rfl rfl rfl (.cons (by rw[hPs,zAg];rfl) (.cons (by rw[hBs];rfl) (.n1 rfl)))⟩
    |true=>
     rw[Bool.true_and]at hBs
     cases M with
     |nil=>
      refine kQ (kw rfl zS (kA sh22 rfl (zC rfl (yA (u:=.int .i64 (t)) rfl ty22 rfl rfl (Int.natCast_nonneg _) (by simp[ht]) cl3 ?_))))
      refine kC sh3 rfl ?_
      refine kp rfl (zA rfl (zB (k_cT rfl (kF (by omega)) (kQ (zC rfl (zC rfl (kf rfl (zC rfl (kf rfl (yc rfl rfl (kE rfl ?_)))))))))))
      refine zA rfl (zB ?_)
      refine zH [(1,U.box 0 0),(3,accL F),(4,.int .i64 ↑(List.length (Ln.slots l))),(5,.int .i64 ↑m),(6,accI []),(7,U.bool !z),(8,.int .i64 ↑i)] ([SB.box (Ln.cs l)]) (.n7 rfl) rfl fun fr=>?_
      refine k_region (zC rfl (zBn (es:=[_]) rfl ty22 ze3 cl3 rfl rfl rfl rfl rfl rfl rfl rfl ?_))
      refine wu rfl wT rfl rfl (by simp) (by simp) rfl (by simp) ?_
      refine zA rfl (zB (k_region (zC rfl ?_)))
      refine kz rfl (by unfold I64;omega) (zA rfl (zB ?_))
      exact⟨mm - 1,by omega,i+1,by omega,rfl,.c4 rfl rfl rfl rfl (.cons (by rw[hPs];rfl) (.cons (by rw[hBs];rfl) (.n1 rfl)))⟩
     |cons y M=>
      refine kQ (kw rfl zS (kA sh22 rfl (zC rfl (yA (u:=.int .i64 (t)) rfl ty22 rfl rfl (Int.natCast_nonneg _) (by simp[ht]) cl3 ?_))))
      refine kC sh3 rfl ?_
      refine kp rfl (zA rfl (zB (k_cT rfl (kF (by omega)) (kQ (zC rfl (zC rfl (kf rfl (zC rfl (kf rfl (yc rfl rfl (kE rfl ?_)))))))))))
      refine zA rfl (zB (k_region (zC rfl (zBn (es:=[_]) rfl ty22 ze3 cl3 rfl rfl rfl rfl rfl rfl rfl rfl ?_))))
      refine wt 6 rfl wT rfl rfl rfl (by simp) (by simp) rfl (by simp at hml ⊢;omega) ?_
      refine zA rfl (zB (k_region (zC rfl ?_)))
      refine kz rfl (by unfold I64;omega) (zA rfl (zB ?_))
      exact⟨mm - 1,by omega,i+1,by omega,rfl,.c4 rfl rfl rfl rfl (.cons (by rw[hPs,zAg];rfl) (.cons (by rw[hBs];rfl) (.n1 rfl)))⟩
   ·rw[if_neg c]at hBs hpI
    cases z with
    |false=>
     rw[if_neg (by decide)]at hpI
     rw[hpI]at hPs
     cases M with
     |nil=>
      refine kQ (kw rfl zS (kA sh22 rfl (zC rfl (yA (u:=.int .i64 (t)) rfl ty22 rfl rfl (Int.natCast_nonneg _) (by simp[ht]) cl3 ?_))))
      refine kC sh3 rfl ?_
      refine kp rfl (zA rfl (zB (k_cF rfl (kG (by omega)) (kQ (zC rfl (zA rfl (zB (k_cF rfl rfl ?_))))))))
      refine k_region (zC rfl (zBn (es:=[_]) rfl ty22 ze3 cl3 rfl rfl rfl rfl rfl rfl rfl rfl ?_))
      refine wu rfl wT rfl rfl (by simp) (by simp) rfl (by simp) ?_
      refine zA rfl (zB ?_)
      refine zH [(1,U.box 0 0),(3,accL F),(4,.int .i64 ↑(List.length (Ln.slots l))),(5,.int .i64 ↑m),(6,U.lst Kd.own 1 [.int .i64 0]),(7,U.bool Bz),(8,.int .i64 ↑i)] ([SB.box (Ln.cs l)]) (.n7 rfl) rfl fun fr=>?_
      refine k_region (zC rfl ?_)
      refine kz rfl (by unfold I64;omega) (zA rfl (zB ?_))
      exact⟨mm - 1,by omega,i+1,by omega,rfl,.c4 rfl rfl rfl rfl (.cons (by rw[hPs];rfl) (.cons (by rw[hBs];rfl) (.n1 rfl)))⟩
     |cons y M=>
      refine kQ (kw rfl zS (kA sh22 rfl (zC rfl (yA (u:=.int .i64 (t)) rfl ty22 rfl rfl (Int.natCast_nonneg _) (by simp[ht]) cl3 ?_))))
      refine kC sh3 rfl ?_
      refine kp rfl (zA rfl (zB (k_cF rfl (kG (by omega)) (kQ (zC rfl (zA rfl (zB (k_cF rfl rfl ?_))))))))
      refine k_region (zC rfl (zBn (es:=[_]) rfl ty22 ze3 cl3 rfl rfl rfl rfl rfl rfl rfl rfl ?_))
      refine wt 6 rfl wT rfl rfl rfl (by simp) (by simp) rfl (by simp at hml ⊢;omega) ?_
      refine zA rfl (zB (k_region (zC rfl ?_)))
      refine kz rfl (by unfold I64;omega) (zA rfl (zB ?_))
      exact⟨mm - 1,by omega,i+1,by omega,rfl,.c4 rfl rfl rfl rfl (.cons (by rw[hPs,zAg];rfl) (.cons (by rw[hBs];rfl) (.n1 rfl)))⟩
    |true=>
     rw[if_pos rfl]at hpI
     rw[hpI]at hPs
     cases M with
     |nil=>
      refine kQ (kw rfl zS (kA sh22 rfl (zC rfl (yA (u:=.int .i64 (t)) rfl ty22 rfl rfl (Int.natCast_nonneg _) (by simp[ht]) cl3 ?_))))
      refine kC sh3 rfl ?_
      refine kp rfl (zA rfl (zB (k_cF rfl (kG (by omega)) (kQ (zC rfl (zA rfl (zB (k_cT rfl rfl ?_))))))))
      refine k_region (zC rfl (zBn (es:=[_]) rfl ty22 ze3 cl3 rfl rfl rfl rfl rfl rfl rfl rfl ?_))
      refine wu rfl wT rfl rfl (by simp) (by simp) rfl (by simp) ?_
      refine zA rfl (zB ?_)
      refine zH [(1,U.box 0 0),(3,accL F),(4,.int .i64 ↑(List.length (Ln.slots l))),(5,.int .i64 ↑m),(6,U.lst Kd.own 1 [.int .i64 1]),(7,U.bool Bz),(8,.int .i64 ↑i)] ([SB.box (Ln.cs l)]) (.n7 rfl) rfl fun fr=>?_
      refine k_region (zC rfl ?_)
      refine kz rfl (by unfold I64;omega) (zA rfl (zB ?_))
      exact⟨mm - 1,by omega,i+1,by omega,rfl,.c4 rfl rfl rfl rfl (.cons (by rw[hPs];rfl) (.cons (by rw[hBs];rfl) (.n1 rfl)))⟩
     |cons y M=>
      refine kQ (kw rfl zS (kA sh22 rfl (zC rfl (yA (u:=.int .i64 (t)) rfl ty22 rfl rfl (Int.natCast_nonneg _) (by simp[ht]) cl3 ?_))))
      refine kC sh3 rfl ?_
      refine kp rfl (zA rfl (zB (k_cF rfl (kG (by omega)) (kQ (zC rfl (zA rfl (zB (k_cT rfl rfl ?_))))))))
      refine k_region (zC rfl (zBn (es:=[_]) rfl ty22 ze3 cl3 rfl rfl rfl rfl rfl rfl rfl rfl ?_))
      refine wt 6 rfl wT rfl rfl rfl (by simp) (by simp) rfl (by simp at hml ⊢;omega) ?_
      refine zA rfl (zB (k_region (zC rfl ?_)))
      refine kz rfl (by unfold I64;omega) (zA rfl (zB ?_))
      exact⟨mm - 1,by omega,i+1,by omega,rfl,.c4 rfl rfl rfl rfl (.cons (by rw[hPs,zAg];rfl) (.cons (by rw[hBs];rfl) (.n1 rfl)))⟩
  ·have hie:i=l.slots.length:=by omega
   rw[hie]at hs4
   have hQ:refQ l m=(plyB l m l.slots.length&&divB l (plyL l m l.slots.length)):=rfl
   have q59a:=q59 (plyL l m l.slots.length)
   generalize plyL l m l.slots.length=M at*
   generalize plyB l m l.slots.length=Bz at*
   generalize divB l M=D at*
   refine zH _ _ hs4 hst4 fun fr4=>?_
   cases Bz with
   |false=>
    rw[hQ,Bool.false_and,if_neg (by decide),List.append_nil]at hFs
    refine k_seq (kQ (zC rfl (zC rfl (kp rfl (zB (k_cF rfl (kG (by omega)) (zj (kQ (zC rfl (zC rfl (ke rfl (ke rfl (ke rfl (kD rfl ?_))))))))))))))
    refine zB (k_cF rfl rfl ?_)
    refine zL (k_region (zC rfl ?_))
    refine kz rfl (by unfold I64;omega) (zA rfl (zB ?_))
    exact⟨kk - 1,by omega,m+1,by omega,rfl,.cons rfl (.cons (by rw[hFs];rfl) (.n2 rfl))⟩
   |true=>
    rw[hQ,Bool.true_and]at hFs
    refine k_seq (kQ (zC rfl (zC rfl (kp rfl (zB (k_cF rfl (kG (by omega)) (zj (kQ ?_))))))))
    refine o_weak 6 rfl (fun _=>rfl) (u:=.lst .ro 1 (zE M)) (accI_ro3 M) ?_
    cases D with
    |false=>
     rw[if_neg (by decide),List.append_nil]at hFs
     refine zC rfl (zC rfl (kf rfl (kB sh24 rfl (kf rfl (zC rfl (kf rfl (zN rfl (q59a) (.lrefl _) (kE rfl ?_))))))))
     refine zB (k_cF rfl rfl ?_)
     refine zL (k_region (zC rfl ?_))
     refine kz rfl (by unfold I64;omega) (zA rfl (zB ?_))
     exact⟨kk - 1,by omega,m+1,by omega,rfl,.cons rfl (.cons (by rw[hFs];rfl) (.n2 rfl))⟩
    |true=>
     rw[if_pos rfl]at hFs
     cases F with
     |nil=>
      refine zC rfl (zC rfl (kf rfl (kB sh24 rfl (kf rfl (zC rfl (kf rfl (zN rfl (q59a) (.lrefl _) (kE rfl ?_))))))))
      refine zB (k_cT rfl rfl ?_)
      refine k_region (zC rfl (zC rfl (zBn (es:=[U.lst Kd.ro 1 (zE M)]) rfl ty42 ze22 cl22 rfl rfl rfl rfl rfl rfl rfl rfl ?_)))
      refine wu rfl ap42_42 rfl rfl (by simp) (by simp) (by simp[yJ,zZ,oneU]) (by simp) ?_
      refine zA rfl (zB (k_region (zC rfl ?_)))
      refine kz rfl (by unfold I64;omega) (zA rfl (zB ?_))
      exact⟨kk - 1,by omega,m+1,by omega,rfl,.cons rfl (.cons (by rw[hFs];rfl) (.n2 rfl))⟩
     |cons y F=>
      refine zC rfl (zC rfl (kf rfl (kB sh24 rfl (kf rfl (zC rfl (kf rfl (zN rfl (q59a) (.lrefl _) (kE rfl ?_))))))))
      refine zB (k_cT rfl rfl ?_)
      refine k_region (zC rfl (zC rfl (zBn (es:=[U.lst Kd.ro 1 (zE M)]) rfl ty42 ze22 cl22 rfl rfl rfl rfl rfl rfl rfl rfl ?_)))
      refine wt 3 rfl ap42_42 rfl rfl rfl (by simp) (by simp) (by simp[yJ,zZ,oneU]) (by simp at hFl ⊢;omega) ?_
      refine zA rfl (zB (k_region (zC rfl ?_)))
      refine kz rfl (by unfold I64;omega) (zA rfl (zB ?_))
      exact⟨kk - 1,by omega,m+1,by omega,rfl,.cons rfl (.cons (by rw[hFs,accL_snoc];rfl) (.n2 rfl))⟩
 ·have e:m=2 ^ l.slots.length:=by omega
  rw[e]at hFs hs3 hFl
  generalize refL l (2 ^ l.slots.length)=F at*
  refine zH _ _ hs3 hst3 fun fr3=>?_
  refine k_seq (kQ (zC rfl (zC rfl (o_shlOne (n:=l.slots.length) rfl rfl rfl (by omega) ?_))))
  refine kp rfl (zB (k_cF rfl (kG (by omega)) (zj (kQ ?_))))
  refine o_weak 3 rfl (fun _=>rfl) (u:=.lst .ro 1 (zAE F)) (accL_ro F) ?_
  refine zC rfl (zA rfl (zB (zV ?_)))
  refine⟨.inr rfl,_,.cons _ _ _ _ (.tmp 2) .nil,?_⟩
  exact .refl _
end
end Go.Proofs.YthhbfbmfhldbaaaDoor.locks
