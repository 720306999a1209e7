import Derived.Test.YtfbmlibilcjlgaaDoorVamT11
set_option linter.unusedVariables false
set_option linter.unusedSimpArgs false
set_option linter.constructorNameAsVariable false
namespace Go.Proofs.YtfbmlibilcjlgaaDoor.drumFewest
open Vam
section
variable {is:FuncId→Bool}{orc:Known}{b:Bk}
noncomputable def b50:Code:=(Tryd.f50.body).getD .skip
theorem body50:bodyOf Tryd.prog 50=some (41,b50,[.tmp 4]):=by kernel_rfl
theorem pure50:pureFn Tryd.prog 50=true:=by kernel_rfl
def zAw:List Int→List Int→Bool
 |[],l=>decide (0<l.length)
 |_::_,[]=>false
 |x::a,y::c=>if x≠y then decide (x<y)else zAw a c
theorem soon_asym:∀(a c:List Int),zAw a c=true→zAw c a=false:=by
 intro a
 induction a with
 |nil=>intro c h;cases c with
  |nil=>rfl
  |cons y c=>rfl
 |cons x a ih=>
  intro c h
  cases c with
  |nil=>cases h
  |cons y c=>
   unfold zAw at h ⊢
   by_cases e:x=y
   ·rw[if_neg (by simp[e])]at h
    rw[if_neg (by simp[e])]
    exact ih c h
   ·rw[if_pos e]at h
    rw[if_pos (fun h2=>e h2.symm)]
    have:=of_decide_eq_true h
    exact decide_eq_false (by omega)
theorem soon_irr:∀a:List Int,zAw a a=false:=by
 intro a
 induction a with
 |nil=>rfl
 |cons x a ih=>unfold zAw;rw[if_neg (by simp)];exact ih
theorem soon_pre:∀(p a c:List Int),zAw (p++a) (p++c)=zAw a c:=by
 intro p
 induction p with
 |nil=>intro a c;rfl
 |cons x p ih=>
  intro a c
  show zAw (x::(p++a)) (x::(p++c))=_
  show(if x≠x then decide (x<x)else zAw (p++a) (p++c))=_
  rw[if_neg (by simp)]
  exact ih a c
set_option maxHeartbeats 8000000 in
theorem ret50(hi:Off is)(l m:List Int)(hl:l.length≤4096)(hm:m.length≤4096):RetP Tryd.prog is orc 50 [.lst .ro 1 (zE l),.lst .ro 1 (zE m)] (.bool (zAw l m)):=by
 refine yG body50 pure50 (hi 50 (by decide)) rfl rfl (yg (zh 6 .ro (fun h=>by cases h) 1 l) (zh 6 .ro (fun h=>by cases h) 1 m)) (.inl (.bool _ _)) ?_
 generalize hz:zAw l m=z
 refine kQ (zC rfl (zA (k_seq (kQ (zC rfl (zA (zQ ?_)))))))
 refine wE (fun kk s2=>∃i:Nat,kk+i=l.length∧i≤m.length∧z=zAw (l.drop i) (m.drop i)∧s2.st=[]∧Holds s2 [(0,.lst .ro 1 (zE l)),(1,.lst .ro 1 (zE m)),(5,.int .i64 i)]) (fun kk s2 hI=>?_) l.length _ ⟨0,rfl,Nat.zero_le _,hz.symm,rfl,.cons rfl (.cons rfl (.cons rfl (.nil rfl)))⟩
 obtain⟨i,hk,him,hw,hst2,hs2⟩:=hI
 clear hz
 refine zO _ _ hs2 hst2 fun fr2=>?_
 by_cases hin:i<l.length
 ·obtain⟨x,hx⟩:∃x,l[i]? =some x:=⟨l[i],List.getElem?_eq_getElem hin⟩
  rw[drop_at hx]at hw
  by_cases hin2:i<m.length
  ·obtain⟨y,hy⟩:∃y,m[i]? =some y:=⟨m[i],List.getElem?_eq_getElem hin2⟩
   rw[drop_at hy]at hw
   have es:zAw (x::l.drop (i+1)) (y::m.drop (i+1))=if x≠y then decide (x<y)else zAw (l.drop (i+1)) (m.drop (i+1)):=rfl
   by_cases e:x=y
   ·rw[es,if_neg (by simp[e])]at hw
    refine k_seq (kQ (zB rfl (zB rfl (yA rfl ty22 rfl (List.length_map _) ?_))))
    refine zi rfl rfl rfl (zB rfl (o_gD rfl rfl rfl rfl (decide_eq_true (by omega)) ?_))
    refine zB rfl (o_gD rfl rfl rfl rfl (decide_eq_true (by omega)) ?_)
    refine zB rfl (o_gD rfl rfl rfl rfl (decide_eq_true (by omega)) ?_)
    refine yA rfl ty22 rfl (List.length_map _) ?_
    refine o_gD rfl rfl rfl rfl (decide_eq_true (by omega)) ?_
    refine zi rfl rfl rfl (zT rfl rfl (decide_eq_true (by omega)) ?_)
    refine zA (k_cT rfl (decide_eq_true (by omega)) (zR (k_seq (zQ (k_seq (yw [.plain,.plain,.plain,.read true,.plain,.plain,.plain,.read true,.plain] (by kernel_rfl) (by kernel_rfl) (by kernel_rfl) ?_))))))
    refine zD (zB rfl (zA rfl)) (zD (zB rfl (zA rfl)) (zD (yx (u:=.int .i64 (x)) rfl ty22 rfl rfl (Int.natCast_nonneg _) (by simp[hx]) cl3 (zA rfl)) ?_))
    refine zb rfl (zj rfl rfl sh3 rfl (zA rfl)) ?_
    refine zD (zB rfl (zA rfl)) (zD (zB rfl (zA rfl)) (zD (yx (u:=.int .i64 (y)) rfl ty22 rfl rfl (Int.natCast_nonneg _) (by simp[hy]) cl3 (zA rfl)) ?_))
    refine zb rfl (zj rfl rfl sh3 rfl (zA rfl)) ?_
    refine zD (zAI rfl rfl rfl (zA rfl)) ?_
    refine zAG ?_
    refine k_cF rfl (decide_eq_false (by omega)) (zR (k_region (zB rfl ?_)))
    refine yu rfl rfl rfl (by unfold I64;omega) (zC rfl (zA ?_))
    exact⟨kk - 1,by omega,i+1,by omega,by omega,hw,rfl,.cons rfl (.cons rfl (.cons rfl (.nil rfl)))⟩
   ·rw[es,if_pos e]at hw
    subst hw
    refine k_seq (kQ (zB rfl (zB rfl (yA rfl ty22 rfl (List.length_map _) ?_))))
    refine zi rfl rfl rfl (zB rfl (o_gD rfl rfl rfl rfl (decide_eq_true (by omega)) ?_))
    refine zB rfl (o_gD rfl rfl rfl rfl (decide_eq_true (by omega)) ?_)
    refine zB rfl (o_gD rfl rfl rfl rfl (decide_eq_true (by omega)) ?_)
    refine yA rfl ty22 rfl (List.length_map _) ?_
    refine o_gD rfl rfl rfl rfl (decide_eq_true (by omega)) ?_
    refine zi rfl rfl rfl (zT rfl rfl (decide_eq_true (by omega)) ?_)
    refine zA (k_cT rfl (decide_eq_true (by omega)) (zR (k_seq (zQ (k_seq (yw [.plain,.plain,.plain,.read true,.plain,.plain,.plain,.read true,.plain] (by kernel_rfl) (by kernel_rfl) (by kernel_rfl) ?_))))))
    refine zD (zB rfl (zA rfl)) (zD (zB rfl (zA rfl)) (zD (yx (u:=.int .i64 (x)) rfl ty22 rfl rfl (Int.natCast_nonneg _) (by simp[hx]) cl3 (zA rfl)) ?_))
    refine zb rfl (zj rfl rfl sh3 rfl (zA rfl)) ?_
    refine zD (zB rfl (zA rfl)) (zD (zB rfl (zA rfl)) (zD (yx (u:=.int .i64 (y)) rfl ty22 rfl rfl (Int.natCast_nonneg _) (by simp[hy]) cl3 (zA rfl)) ?_))
    refine zb rfl (zj rfl rfl sh3 rfl (zA rfl)) ?_
    refine zD (zAI rfl rfl rfl (zA rfl)) ?_
    refine zAG ?_
    refine k_cT rfl (decide_eq_true (by omega)) (k_seq (yw [.plain,.plain,.plain,.read true,.plain,.plain,.plain,.read true,.plain,.plain] (by kernel_rfl) (by kernel_rfl) (by kernel_rfl) ?_))
    refine zD (zB rfl (zA rfl)) (zD (zB rfl (zA rfl)) (zD (yx (u:=.int .i64 (x)) rfl ty22 rfl rfl (Int.natCast_nonneg _) (by simp[hx]) cl3 (zA rfl)) ?_))
    refine zb rfl (zj rfl rfl sh3 rfl (zA rfl)) ?_
    refine zD (zB rfl (zA rfl)) (zD (zB rfl (zA rfl)) (zD (yx (u:=.int .i64 (y)) rfl ty22 rfl rfl (Int.natCast_nonneg _) (by simp[hy]) cl3 (zA rfl)) ?_))
    refine zb rfl (zj rfl rfl sh3 rfl (zA rfl)) ?_
    refine zD (zi rfl rfl rfl (zA rfl)) ?_
    refine zD (zC rfl (zA rfl)) ?_
    refine zAG ?_
    refine zZ ?_
    refine⟨.inr rfl,_,.cons _ _ _ _ (.tmp 4) .nil,?_⟩
    exact .refl _
  ·have hd:m.drop i=[]:=List.drop_eq_nil_of_le (by omega)
   rw[hd]at hw
   change z=false at hw
   subst hw
   have hk40:decide ((l.length:Int)<m.length)=false:=decide_eq_false (by omega)
   refine k_seq (kQ (zB rfl (zB rfl (yA rfl ty22 rfl (List.length_map _) ?_))))
   refine zi rfl rfl rfl (zB rfl (o_gD rfl rfl rfl rfl (decide_eq_true (by omega)) ?_))
   refine zB rfl (o_gD rfl rfl rfl rfl (decide_eq_true (by omega)) ?_)
   refine zB rfl (o_gD rfl rfl rfl rfl (decide_eq_true (by omega)) ?_)
   refine yA rfl ty22 rfl (List.length_map _) ?_
   refine o_gD rfl rfl rfl rfl (decide_eq_true (by omega)) ?_
   refine zi rfl rfl rfl (zT rfl rfl (decide_eq_true (by omega)) ?_)
   refine zA (k_cF rfl (decide_eq_false (by omega)) (yf (kQ (zB rfl (yA rfl ty22 rfl (List.length_map _) ?_)))))
   refine zB rfl (yA rfl ty22 rfl (List.length_map _) ?_)
   refine zi rfl rfl rfl (zC rfl (zA (zZ ?_)))
   refine⟨.inr rfl,_,.cons _ _ _ _ (.tmp 4) .nil,?_⟩
   rw[hk40];exact .refl _
 ·have hie:i=l.length:=by omega
  have hd:l.drop i=[]:=List.drop_eq_nil_of_le (by omega)
  rw[hd]at hw
  have es:zAw [] (m.drop i)=decide ((l.length:Int)<m.length):=by
   show decide (0<(m.drop i).length)=_
   rw[List.length_drop]
   exact decide_eq_decide.2 (by omega)
  rw[es]at hw
  subst hw
  refine k_seq (kQ (zB rfl (zB rfl (yA rfl ty22 rfl (List.length_map _) ?_))))
  refine zi rfl rfl rfl (zB rfl (o_gS rfl rfl rfl rfl (decide_eq_false (by omega)) ?_))
  refine o_gS rfl rfl rfl rfl (decide_eq_false (by omega)) ?_
  refine o_gS rfl rfl rfl rfl (decide_eq_false (by omega)) ?_
  refine o_gS rfl rfl rfl rfl (decide_eq_false (by omega)) ?_
  refine zP rfl rfl (decide_eq_false (by omega)) ?_
  refine zA (k_cF rfl rfl ?_)
  refine yf (kQ (zB rfl (yA rfl ty22 rfl (List.length_map _) ?_)))
  refine zB rfl (yA rfl ty22 rfl (List.length_map _) ?_)
  refine zi rfl rfl rfl (zC rfl (zA (zZ ?_)))
  refine⟨.inr rfl,_,.cons _ _ _ _ (.tmp 4) .nil,?_⟩
  exact .refl _
theorem chg_map{L:List Int}:L=(List.range L.length).map fun i=>(L[i]?).getD 0:=by
 refine List.ext_getElem? fun i=>?_
 rw[List.getElem?_map]
 by_cases h:i<L.length
 ·rw[List.getElem?_range h,List.getElem?_eq_getElem h];simp[List.getElem?_eq_getElem h]
 ·rw[List.getElem?_eq_none (by omega),List.getElem?_eq_none (by simp;omega)];rfl
theorem ret49g(hi:Off is){L:List Int}(hL:1≤L.length∧L.length≤4096):RetP Tryd.prog is orc 49 [.lst .ro 1 (zE L)] (.int .i64 (chg L)):=by
 have:=ret49 (orc:=orc) hi (fun i=>(L[i]?).getD 0) L.length hL
 rw[←chg_map]at this
 exact this
end
section
variable {is:FuncId→Bool}{orc:Known}{b:Bk}
theorem pair_app{α:Type}{R:α→α→Prop}{l m:List α}:(l++m).Pairwise R↔l.Pairwise R∧m.Pairwise R∧∀x∈l,∀y∈m,R x y:=List.pairwise_append
theorem lvP_pair(b:Bk):∀(r:Nat) (p:List Int),(lvP b r p).Pairwise fun x y=>zAw x y=true:=by
 intro r
 induction r with
 |zero=>intro p;exact List.pairwise_singleton _ _
 |succ r ih=>
  intro p
  have h:∀j,(ptP b r p j).Pairwise (fun x y=>zAw x y=true)∧∀x∈ptP b r p j,∃(d:Nat) (q:List Int),d<j∧x=p++(d:Int)::q:=by
   intro j
   induction j with
   |zero=>exact⟨List.Pairwise.nil,fun x hx=>by cases hx⟩
   |succ j ihj=>
    rw[ptP_succ]
    have hnew:∀y∈(if exB b p j=true then lvP b r (p++[(j:Int)])else []),∃q,y=p++(j:Int)::q:=fun y hy=>by
     split at hy
     ·obtain⟨q,rfl,_⟩:=mem_lvP _ _ _ hy
      exact⟨q,by simp⟩
     ·cases hy
    refine⟨pair_app.2 ⟨ihj.1,?_,fun x hx y hy=>?_⟩,fun x hx=>?_⟩
    ·split
     ·exact ih _
     ·exact List.Pairwise.nil
    ·obtain⟨d,q,hd,rfl⟩:=ihj.2 x hx
     obtain⟨q2,rfl⟩:=hnew y hy
     rw[soon_pre]
     show(if(d:Int)≠(j:Int)then decide ((d:Int)<j)else zAw q q2)=true
     rw[if_pos (by omega)]
     exact decide_eq_true (by omega)
    ·rcases List.mem_append.1 hx with hx|hx
     ·obtain⟨d,q,hd,e⟩:=ihj.2 x hx
      exact⟨d,q,by omega,e⟩
     ·obtain⟨q,e⟩:=hnew x hx
      exact⟨j,q,by omega,e⟩
  exact(h 4).1
theorem lvP_pok(hb:BOk b):∀(r:Nat) (p L:List Int),((p.length+r:Nat):Int)=b.parts→Pre b p→L∈lvP b r p→POk b L:=by
 intro r
 induction r with
 |zero=>
  intro p L hpr hp hL
  rcases List.mem_singleton.1 (show L∈[p]from hL)with rfl
  exact hp.pok hb (by simpa using hpr)
 |succ r ih=>
  intro p L hpr hp hL
  obtain⟨d,hd,hL⟩:=List.mem_flatMap.1 (show L∈(List.range 4).flatMap _ from hL)
  have hd4:=List.mem_range.1 hd
  split at hL
  ·rename_i he
   exact ih _ L (by rw[List.length_append];simp at hpr ⊢;omega) (hp.snoc (by omega) he) hL
  ·cases hL
theorem paths_pok(hb:BOk b){L:List Int}(h:L∈paths b):POk b L:=by
 have:=hb.pa
 exact lvP_pok hb _ [] L (by simp;omega) (pre_nil b) h
theorem mem_lv(hb:BOk b){L:List Int}(hL:POk b L):∀(r:Nat) (p q:List Int),((p.length+r:Nat):Int)=b.parts→L=p++q→L∈lvP b r p:=by
 have hlen:=hL.len
 intro r
 induction r with
 |zero=>
  intro p q hpr e
  have hq:q=[]:=by
   have:L.length=p.length+q.length:=by rw[e,List.length_append]
   refine List.eq_nil_of_length_eq_zero ?_
   simp at hpr;omega
  subst hq
  rw[List.append_nil]at e
  exact List.mem_singleton.2 e
 |succ r ih=>
  intro p q hpr e
  have hLl:L.length=p.length+q.length:=by rw[e,List.length_append]
  cases q with
  |nil=>simp at hLl hpr;omega
  |cons d q=>
   have hat:L[p.length]? =some d:=by rw[e];simp
   have hd:=hL.rg d (List.mem_of_getElem? hat)
   obtain⟨n,rfl⟩:∃n:Nat,d=n:=⟨d.toNat,by omega⟩
   refine List.mem_flatMap.2 ⟨n,List.mem_range.2 (by omega),?_⟩
   have hex:exB b p n=true:=by
    unfold exB
    rw[Bool.and_eq_true,Bool.or_eq_true,Bool.or_eq_true]
    by_cases h0:p.length=0
    ·refine⟨.inr (decide_eq_true ?_),.inl (decide_eq_true h0)⟩
     have:=hL.st
     rw[h0]at hat
     rw[hat]at this;exact Option.some.inj this
    ·refine⟨.inl (decide_eq_true (by omega)),.inr (decide_eq_true ?_)⟩
     obtain⟨x,hx⟩:∃x,p[p.length - 1]? =some x:=⟨p[p.length - 1],List.getElem?_eq_getElem (by omega)⟩
     have hx2:L[p.length - 1]? =some x:=by rw[e,List.getElem?_append_left (by omega)];exact hx
     have:=hL.nr (p.length - 1) x n hx2 (by rw[show p.length - 1+1=p.length by omega];exact hat)
     rw[hx]
     unfold zFO
     simp only[Option.getD_some]
     omega
   rw[if_pos hex]
   exact ih (p++[(n:Int)]) q (by rw[List.length_append];simp at hpr ⊢;omega) (by rw[e];simp)
theorem mem_paths(hb:BOk b){L:List Int}:L∈paths b↔POk b L:=by
 have:=hb.pa
 exact⟨paths_pok hb,fun h=>mem_lv hb h _ [] L (by simp;omega) rfl⟩
theorem zFj(hb:BOk b){L:List Int}:L∈zu b↔POk b L∧planB b L=true:=by
 unfold zu
 rw[List.mem_filter,mem_paths hb]
theorem fold_min{R:List Int→List Int→Prop}(hR:∀x y,R x y→ ¬ R y x):∀(l:List (List Int)) (a:List Int),a≠[]→(∀q∈l,q≠[]∧R a q)→l.Pairwise R→
  (l.foldl zAr a∈a::l)∧∀q∈a::l,chg (l.foldl zAr a)<chg q∨(chg (l.foldl zAr a)=chg q∧(l.foldl zAr a=q∨R (l.foldl zAr a) q)):=by
 intro l
 induction l with
 |nil=>intro a ha _ _;exact⟨List.mem_cons_self,fun q hq=>by rcases List.mem_singleton.1 hq with rfl;exact .inr ⟨rfl,.inl rfl⟩⟩
 |cons x l ih=>
  intro a ha hq hp
  obtain⟨hp1,hp2⟩:=List.pairwise_cons.1 hp
  have hx:=hq x List.mem_cons_self
  rw[List.foldl_cons]
  by_cases hlt:chg x<chg a
  ·have e:zAr a x=x:=by unfold zAr;rw[if_pos (.inr hlt)]
   rw[e]
   obtain⟨h1,h2⟩:=ih x hx.1 (fun q h=>⟨(hq q (List.mem_cons_of_mem _ h)).1,hp1 q h⟩) hp2
   refine⟨List.mem_cons_of_mem _ h1,fun q h=>?_⟩
   rcases List.mem_cons.1 h with rfl|h
   ·rcases h2 x List.mem_cons_self with h|h
    ·exact .inl (by omega)
    ·exact .inl (by omega)
   ·exact h2 q h
  ·have e:zAr a x=a:=by unfold zAr;rw[if_neg (by rintro(h|h);exact ha h;exact hlt h)]
   rw[e]
   obtain⟨h1,h2⟩:=ih a ha (fun q h=>hq q (List.mem_cons_of_mem _ h)) hp2
   refine⟨?_,fun q h=>?_⟩
   ·rcases List.mem_cons.1 h1 with h|h
    ·rw[h];exact List.mem_cons_self
    ·exact List.mem_cons_of_mem _ (List.mem_cons_of_mem _ h)
   ·rcases List.mem_cons.1 h with rfl|h
    ·exact h2 q List.mem_cons_self
    ·rcases List.mem_cons.1 h with rfl|h
     ·rcases h2 a List.mem_cons_self with h3|⟨h3,h4⟩
      ·exact .inl (by omega)
      ·rcases h4 with h4|h4
       ·by_cases h5:chg (l.foldl zAr a)<chg q
        ·exact .inl h5
        ·refine .inr ⟨by omega,.inr ?_⟩
         rw[h4];exact hx.2
       ·rcases List.mem_cons.1 h1 with h5|h5
        ·rw[h5]at h4;exact absurd h4 (fun h=>hR _ _ h h)
        ·exact absurd h4 (hR _ _ (hq _ (List.mem_cons_of_mem _ h5)).2)
     ·exact h2 q (List.mem_cons_of_mem _ h)
theorem filter_all{α:Type}{p:α→Bool}{l:List α}(h:∀x∈l,p x=true):l.filter p=l:=List.filter_eq_self.2 h
theorem best_spec(hb:BOk b):(zu b=[]∧zx (zu b)=[])∨(zx (zu b)∈zu b∧∀q∈zu b,chg (zx (zu b))<chg q∨(chg (zx (zu b))=chg q∧zAw q (zx (zu b))=false)):=by
 have h8:∀q∈zu b,ok8 q=true:=fun q hq=>POk.ok8 hb ((zFj hb).1 hq).1
 have hpw:(zu b).Pairwise fun x y=>zAw x y=true:=List.Pairwise.filter _ (lvP_pair b _ _)
 have e:zx (zu b)=(zu b).foldl zAr []:=by unfold zx;rw[filter_all h8]
 rw[e]
 generalize zu b=l at*
 cases l with
 |nil=>exact .inl ⟨rfl,rfl⟩
 |cons a l=>
  right
  have ha:a≠[]:=fun h=>by have:=zFb.1 (h8 a List.mem_cons_self);rw[h]at this;simp at this
  obtain⟨hp1,hp2⟩:=List.pairwise_cons.1 hpw
  have e1:zAr [] a=a:=by unfold zAr;rw[if_pos (.inl rfl)]
  rw[List.foldl_cons,e1]
  obtain⟨h1,h2⟩:=fold_min (R:=fun x y=>zAw x y=true) (fun x y h h2=>by rw[soon_asym _ _ h]at h2;cases h2) l a ha (fun q hq=>⟨fun h=>by have:=zFb.1 (h8 q (List.mem_cons_of_mem _ hq));rw[h]at this;simp at this,hp1 q hq⟩) hp2
  refine⟨h1,fun q hq=>?_⟩
  rcases h2 q hq with h|⟨h,h3⟩
  ·exact .inl h
  ·refine .inr ⟨h,?_⟩
   rcases h3 with h3|h3
   ·rw[h3];exact soon_irr _
   ·exact soon_asym _ _ h3
end
end Go.Proofs.YtfbmlibilcjlgaaDoor.drumFewest
