import Derived.Test.YtpckmojdekdbbaaGreatVamJ
set_option linter.unusedVariables false
set_option linter.unusedSimpArgs false
namespace Vam
open Go
variable {Pr:Prt}{φ φ':BMap}{S S':SMap}{s s':St}{tm tm':TT}{H H':CH}{P:Program}{is:FuncId→Bool}{orc:Known}
theorem zAp{α:Type}(no:α){H:CH}(hn:H.n.wf)(x:Blk)(k:Id→CH→α):
  ∃H':CH,alloc no H x k=k H.n H'∧H'.n=H.n.next∧H'.fz=H.fz∧∀j:Id,j.wf→H'.get j=if j=H.n then some x else H.get j:=by
 cases H with
 |mk n f t=>cases n with
  |over=>exact hn.elim
  |mk m a b c d e=>
   refine⟨.mk (Id.next (.mk m a b c d e)) f (Tr.put (some x) t a b c d e),rfl,rfl,rfl,?_⟩
   have h1:alloc (none:Option (Id×CH)) (.mk (.mk m a b c d e) f t) x (fun n H=>some (n,H))=some (.mk m a b c d e,.mk (Id.next (.mk m a b c d e)) f (Tr.put (some x) t a b c d e)):=rfl
   obtain⟨H',h2,h3,h4,h5,h6⟩:=wK h1 (by simp) hn
   cases h2
   exact h6
theorem zj{H:CH}(hn:H.n.wf): ¬ Before H.n H.n:=zU hn
theorem set_of{H:CH}{b:Id}(hb:b.wf)(hf:H.fz≤b.num)(x:Blk):∃H',H.set b x=some H'∧H'.n=H.n∧H'.fz=H.fz∧∀j:Id,j.wf→H'.get j=if j=b then some x else H.get j:=by
 have:∃H',H.set b x=some H':=by
  cases H with
  |mk n f t=>cases b with
   |over=>exact hb.elim
   |mk k a b c d e=>
    refine⟨CH.mk n f (Tr.put (some x) t a b c d e),?_⟩
    show cond (Nat.ble f k) _ _=some _
    rw[show Nat.ble f k=true by rw[Nat.ble_eq];exact hf];rfl
 obtain⟨H',h⟩:=this
 obtain⟨h1,h2,_,h3⟩:=CH.set_some h hb
 exact⟨H',h,h1,h2,h3⟩
structure Alloc(H H':CH)(x:Blk):Prop where
 n:H'.n=H.n.next
 fz:H'.fz=H.fz
 get:∀j:Id,j.wf→H'.get j=if j=H.n then some x else H.get j
theorem Alloc.old{x:Blk}(h:Alloc H H' x)(hn:H.n.wf){b:Id}(hb:b.wf)(hf:Before b H.n):H'.get b=H.get b:=by
 rw[h.get b hb,if_neg];rintro rfl;exact zj hn hf
theorem Alloc.kept{x:Blk}(h:Alloc H H' x)(hs:SR Pr φ S s tm H):Kept Pr H H':=
 ⟨h.fz,fun b hb=>by rw[h.n];exact Before.next hs.nok hb,fun b hb=>by
  rw[h.get b (hs.prot b hb).1,if_neg];rintro rfl;exact zj hs.nok (hs.prot _ hb).2.1,fun b _ hw hb=>.of_eq (h.old hs.nok hw hb)⟩
theorem At.alloc{x:Blk}(h:Alloc H H' x)(hs:SR Pr φ S s tm H){lo:Lo}{v:V}{u:U}(ha:At φ s tm H' lo v u):At φ s tm H lo v u:=by
 cases ha with
 |slot i hi=>exact .slot i hi
 |cell a o b cs l e _ _ h1 h2 h3 h4 h5=>
  refine .cell a o b cs l e _ _ h1 h2 ?_ h4 h5
  rw[←h.old hs.nok (hs.dom a b h2).1 (hs.dom a b h2).2.1];exact h3
theorem At.alloc'{x:Blk}(h:Alloc H H' x)(hs:SR Pr φ S s tm H){lo:Lo}{v:V}{u:U}(ha:At φ s tm H lo v u):At φ s tm H' lo v u:=by
 cases ha with
 |slot i hi=>exact .slot i hi
 |cell a o b cs l e _ _ h1 h2 h3 h4 h5=>
  refine .cell a o b cs l e _ _ h1 h2 ?_ h4 h5
  rw[h.old hs.nok (hs.dom a b h2).1 (hs.dom a b h2).2.1];exact h3
noncomputable def SMap.with(S:SMap)(b:Id)(l:List V):SMap:=fun c=>if c=b then some l else S c
theorem SMap.le_with{S:SMap}{b:Id}(l:List V)(h:S b=none):S.le (S.with b l):=by
 intro c m hc
 unfold SMap.with
 rw[if_neg];exact hc
 rintro rfl;rw[h]at hc;cases hc
theorem SMap.with_self(S:SMap)(b:Id)(l:List V):S.with b l b=some l:=by unfold SMap.with;rw[if_pos rfl]
theorem SR.none_n(hs:SR Pr φ S s tm H):S H.n=none:=by
 cases h:S H.n with
 |none=>rfl
 |some l=>exact absurd (hs.mem _ _ h).2.1 (zj hs.nok)
theorem SR.box_n(hs:SR Pr φ S s tm H)(a:Nat):φ a≠some H.n:=fun h=>zj hs.nok (hs.dom a _ h).2.1
theorem zAi:∀{a b:List V},zF a=zF b→a=b:=by
 intro a
 induction a with
 |nil=>intro b h;cases b with
  |nil=>rfl
  |cons _ _=>cases h
 |cons x a ih=>intro b h;cases b with
  |nil=>cases h
  |cons y b=>
   have h:V.cons x (zF a)=V.cons y (zF b):=h
   injection h with h1 h2
   rw[h1,ih h2]
theorem At.vu(hs:SR Pr φ S s tm H){lo:Lo}{v:V}{u:U}(ha:At φ s tm H lo v u):VU φ S v u:=by
 cases ha with
 |slot i hi=>exact hs.fr i hi
 |cell a o b cs l e _ _ h1 h2 h3 h4 h5=>
  obtain⟨b',l',e',q1,q2,q3⟩:=hs.box a cs h1
  rw[h2]at q1;cases q1
  rw[h3]at q2
  have:zF l=zF l':=by injection q2 with q2;injection q2
  have hl:=zAi this
  subst hl
  obtain⟨w,w1,w2⟩:=q3.get h5
  rw[h4]at w1;cases w1;exact w2
theorem own_S{v:V}{u:U}{b:Id}(hv:VU φ S v u)(hb:yU v u=some b):∃l,S b=some l:=by
 cases hv with
 |slice b off len cc sz l l1 l2 k es q1 _ _ _ _ _ _=>
  cases k with
  |own=>
   simp only[yU]at hb
   split at hb
   ·cases hb
   ·cases hb;exact⟨l,q1⟩
  |_=>cases hb
 |over k sz cc _ hk=>
  cases k with
  |own=>
   obtain rfl:=hk.resolve_left (fun h=>by cases h)
   simp[yU,capE,capX]at hb
  |_=>cases hb
 |nils k z=>cases k<;>cases hb
 |_=>cases hb
theorem zDe(hs:SR Pr φ S s tm H){lo:Lo}{v:V}{u:U}(ha:At φ s tm H lo v u){b:Id}(hb:yU v u=some b):b.wf∧Before b H.n:=by
 obtain⟨l,hl⟩:=own_S (ha.vu hs) hb
 exact⟨(hs.mem _ _ hl).1,(hs.mem _ _ hl).2.1⟩
theorem SR.newMem(hs:SR Pr φ S s tm H){l:List V}{e:TypeId}{sh:List Id}(h:Alloc H H' (.cells (zF l) e 0 sh)):SR Pr φ (S.with H.n l) s tm H':=by
 have hle:=SMap.le_with l hs.none_n
 refine⟨by rw[h.n];exact(Id.next_ok hs.nok).1,by rw[h.n,h.fz,(Id.next_ok hs.nok).2];have:=hs.fzn;omega,fun i hi=>(hs.fr i hi).mono φ.le_refl hle,?_,?_,hs.inj,?_,?_,?_,?_,?_,?_⟩
 ·intro a x ha
  exact(hs.bx a x ha).move φ.le_refl hle fun b hb=>h.old hs.nok (hs.dom a b hb).1 (hs.dom a b hb).2.1
 ·intro a b ha
  obtain⟨h1,h2,h3,h4⟩:=hs.dom a b ha
  exact⟨h1,by rw[h.n];exact Before.next hs.nok h2,h3,by rw[h.fz];exact h4⟩
 ·intro b m hb
  unfold SMap.with at hb
  split at hb
  ·rename_i e;subst e;cases hb
   exact⟨hs.nok,by rw[h.n];exact Before.self hs.nok,fun a ha=>absurd ha (hs.box_n a),.inl ⟨e,0,sh,by rw[h.get _ hs.nok,if_pos rfl],by decide⟩⟩
  ·obtain⟨h1,h2,h3,h4⟩:=hs.mem b m hb
   exact⟨h1,by rw[h.n];exact Before.next hs.nok h2,h3,by rw[h.old hs.nok h1 h2];exact h4⟩
 ·intro lo v u b ha hb
  obtain⟨h1,m,e',sh',h2⟩:=hs.own lo v u b (ha.alloc h hs) hb
  refine⟨by rw[h.fz];exact h1,m,e',sh',?_⟩
  obtain⟨w1,w2⟩:=zDe hs (ha.alloc h hs) hb
  rw[h.old hs.nok w1 w2];exact h2
 ·intro lo lo' v u v' u' b ha ha' hb hb'
  exact hs.excl lo lo' v u v' u' b (ha.alloc h hs) (ha'.alloc h hs) hb hb'
 ·intro p hp
  obtain⟨h1,v,u,h2,h3⟩:=hs.ali p hp
  exact⟨h1,v,u,h2.alloc' h hs,h3⟩
 ·intro b hb
  obtain⟨h1,h2,h3,h4⟩:=hs.prot b hb
  exact⟨h1,by rw[h.n];exact Before.next hs.nok h2,h3,fun lo v u ha=>h4 lo v u (ha.alloc h hs)⟩
 ·intro b hb
  obtain⟨q1,q2⟩:=hs.pnew b hb
  refine⟨q1,?_⟩
  unfold SMap.with
  rw[if_neg];exact q2
  rintro rfl;exact zj hs.nok (hs.prot _ q1).2.1
noncomputable def BMap.with(φ:BMap)(a:Nat)(b:Id):BMap:=fun c=>if c=a then some b else φ c
theorem BMap.le_with{φ:BMap}{a:Nat}(b:Id)(h:φ a=none):φ.le (φ.with a b):=by
 intro c m hc
 unfold BMap.with
 rw[if_neg];exact hc
 rintro rfl;rw[h]at hc;cases hc
theorem BMap.with_self(φ:BMap)(a:Nat)(b:Id):φ.with a b a=some b:=by unfold BMap.with;rw[if_pos rfl]
theorem SR.none_st(hs:SR Pr φ S s tm H):φ s.st.length=none:=by
 cases h:φ s.st.length with
 |none=>rfl
 |some b=>exact absurd (hs.dom _ _ h).2.2.1 (Nat.lt_irrefl _)
theorem SR.newBox(hs:SR Pr φ S s tm H){l:List V}{cs:List U}{e:TypeId}(h:Alloc H H' (.cells (zF l) e 0 []))(hl:LU φ S l cs)(hn:∀v u,u∈cs→yU v u=none):
  SR Pr (φ.with s.st.length H.n) S {s with st:=s.st++[.box cs]} tm H':=by
 have hle:=BMap.le_with H.n hs.none_st
 have key:∀lo v u,At (φ.with s.st.length H.n) {s with st:=s.st++[.box cs]} tm H' lo v u→At φ s tm H lo v u∨yU v u=none:=by
  intro lo v u ha
  cases ha with
  |slot i hi=>exact .inl (.slot i hi)
  |cell a o b cs' l' e' _ _ h1 h2 h3 h4 h5=>
   have h1:(s.st++[SB.box cs])[a]? =some (.box cs'):=h1
   by_cases ea:a<s.st.length
   ·left
    rw[List.getElem?_append_left ea]at h1
    have h2:φ a=some b:=by unfold BMap.with at h2;rw[if_neg (by omega)]at h2;exact h2
    refine .cell a o b cs' l' e' _ _ h1 h2 ?_ h4 h5
    rw[←h.old hs.nok (hs.dom a b h2).1 (hs.dom a b h2).2.1];exact h3
   ·right
    rw[List.getElem?_append_right (by omega)]at h1
    have hz:a - s.st.length=0:=by
     cases hq:a - s.st.length with
     |zero=>rfl
     |succ n=>rw[hq]at h1;simp at h1
    rw[hz]at h1
    have e:cs'=cs:=by simp at h1;exact h1.symm
    subst e
    exact hn _ _ (List.mem_of_getElem? h5)
 have key':∀lo v u,At φ s tm H lo v u→At (φ.with s.st.length H.n) {s with st:=s.st++[.box cs]} tm H' lo v u:=by
  intro lo v u ha
  cases ha with
  |slot i hi=>exact .slot i hi
  |cell a o b cs' l' e' _ _ h1 h2 h3 h4 h5=>
   have ea:=(hs.dom a b h2).2.2.1
   refine .cell a o b cs' l' e' _ _ (by show(s.st++[SB.box cs])[a]? =_;rw[List.getElem?_append_left ea];exact h1) (hle _ _ h2) ?_ h4 h5
   rw[h.old hs.nok (hs.dom a b h2).1 (hs.dom a b h2).2.1];exact h3
 refine⟨by rw[h.n];exact(Id.next_ok hs.nok).1,by rw[h.n,h.fz,(Id.next_ok hs.nok).2];have:=hs.fzn;omega,fun i hi=>(hs.fr i hi).mono hle S.le_refl,?_,?_,?_,?_,?_,?_,?_,?_,hs.pnew⟩
 ·intro a x ha
  have ha:(s.st++[SB.box cs])[a]? =some x:=ha
  by_cases ea:a<s.st.length
  ·rw[List.getElem?_append_left ea]at ha
   exact(hs.bx a x ha).move hle S.le_refl fun b hb=>h.old hs.nok (hs.dom a b hb).1 (hs.dom a b hb).2.1
  ·rw[List.getElem?_append_right (by omega)]at ha
   have hz:a - s.st.length=0:=by
    cases hq:a - s.st.length with
    |zero=>rfl
    |succ n=>rw[hq]at ha;simp at ha
   rw[hz]at ha
   have e1:x=.box cs:=by simp at ha;exact ha.symm
   have e2:a=s.st.length:=by omega
   subst e1;subst e2
   exact⟨H.n,l,e,BMap.with_self _ _ _,by rw[h.get _ hs.nok,if_pos rfl],hl.mono hle S.le_refl⟩
 ·intro a b ha
  unfold BMap.with at ha
  split at ha
  ·rename_i ea;cases ha
   refine⟨hs.nok,by rw[h.n];exact Before.self hs.nok,by rw[ea];simp,?_⟩
   exact fun _=>by rw[h.fz];exact hs.fzn
  ·obtain⟨h1,h2,h3,h4⟩:=hs.dom a b ha
   exact⟨h1,by rw[h.n];exact Before.next hs.nok h2,by simp;omega,fun q=>by rw[h.fz];exact h4 (q.app h3)⟩
 ·intro a a' b ha ha'
  unfold BMap.with at ha ha'
  split at ha<;>split at ha'
  ·omega
  ·cases ha;exact absurd ha' (hs.box_n a')
  ·cases ha';exact absurd ha (hs.box_n a)
  ·exact hs.inj a a' b ha ha'
 ·intro b m hb
  obtain⟨h1,h2,h3,h4⟩:=hs.mem b m hb
  refine⟨h1,by rw[h.n];exact Before.next hs.nok h2,?_,by rw[h.old hs.nok h1 h2];exact h4⟩
  intro a ha
  unfold BMap.with at ha
  split at ha
  ·cases ha;exact absurd h2 (zj hs.nok)
  ·obtain⟨cs0,q⟩:=h3 a ha;exact⟨cs0,by show(s.st++[SB.box cs])[a]? =_;rw[List.getElem?_append_left (List.getElem?_eq_some_iff.1 q).1];exact q⟩
 ·intro lo v u b ha hb
  rcases key _ _ _ ha with ha|hq
  ·obtain⟨h1,m,e',sh',h2⟩:=hs.own lo v u b ha hb
   obtain⟨w1,w2⟩:=zDe hs ha hb
   exact⟨by rw[h.fz];exact h1,m,e',sh',by rw[h.old hs.nok w1 w2];exact h2⟩
  ·rw[hq]at hb;cases hb
 ·intro lo lo' v u v' u' b ha ha' hb hb'
  rcases key _ _ _ ha with ha|hq
  ·rcases key _ _ _ ha' with ha'|hq
   ·exact hs.excl lo lo' v u v' u' b ha ha' hb hb'
   ·rw[hq]at hb';cases hb'
  ·rw[hq]at hb;cases hb
 ·intro p hp
  obtain⟨h1,v,u,h2,h3⟩:=hs.ali p hp
  exact⟨h1,v,u,key' _ _ _ h2,h3⟩
 ·intro b hb
  obtain⟨h1,h2,h3,h4⟩:=hs.prot b hb
  refine⟨h1,by rw[h.n];exact Before.next hs.nok h2,?_,fun lo v u ha=>?_⟩
  ·intro a ha
   unfold BMap.with at ha
   split at ha
   ·cases ha;exact absurd h2 (zj hs.nok)
   ·obtain⟨cs0,q⟩:=h3 a ha;exact⟨cs0,by show(s.st++[SB.box cs])[a]? =_;rw[List.getElem?_append_left (List.getElem?_eq_some_iff.1 q).1];exact q⟩
  ·rcases key _ _ _ ha with ha|hq
   ·exact h4 lo v u ha
   ·rw[hq];simp
def Lo.isCell(a:Nat)(l:Lo):Bool:=match l with
 | .cell c _=>Nat.beq c a
 |_=>false
noncomputable def St.wr(s:St)(a:Nat)(cs:List U):St:=⟨s.fr,zEY (fun p=> !(p.2.isCell a)) s.al,s.st.set a (.box cs)⟩
theorem SR.write(hs:SR Pr φ S s tm H){a:Nat}{cs:List U}(hst:s.st[a]? =some (.box cs)){b:Id}(hφ:φ a=some b){l:List V}{e:TypeId}(hg:H.get b=some (.cells (zF l) e 0 []))
  {l':List V} {cs':List U} (hl:LU φ S l' cs') {off:Nat} (hold:∀o v u,l'[o]? =some v→cs'[o]? =some u→o≠off→(l[o]? =some v∧cs[o]? =some u)∨yU v u=none)
  (hnew:∀v u,l'[off]? =some v→cs'[off]? =some u→NewOk Pr φ s tm H v u):
  ∃H',H.set b (.cells (zF l') e 0 [])=some H'∧SR Pr φ S (s.wr a cs') tm H'∧Kept Pr H H':=by
 obtain⟨d1,d2,d3,d4⟩:=hs.dom a b hφ
 obtain⟨H',h1,h2,h3,h4⟩:=set_of d1 (d4 (Thw.at hst fun _ q=>by cases q)) (.cells (zF l') e 0 [])
 have hne:∀c,c.wf→c≠b→H'.get c=H.get c:=fun c hc hcb=>by rw[h4 c hc,if_neg hcb]
 have hSb:∀c m,S c=some m→c≠b:=by rintro c m hc rfl;obtain⟨cs0,q⟩:=(hs.mem _ _ hc).2.2.1 a hφ;rw[hst]at q;cases q
 have key:∀lo v u,At φ (s.wr a cs') tm H' lo v u→At φ s tm H lo v u∨yU v u=none∨(lo=.cell a off∧NewOk Pr φ s tm H v u):=by
  intro lo v u ha
  cases ha with
  |slot i hi=>exact .inl (.slot i hi)
  |cell c o b' cs2 l2 e2 _ _ k1 k2 k3 k4 k5=>
   have k1:(s.st.set a (.box cs'))[c]? =some (.box cs2):=k1
   by_cases ec:c=a
   ·subst ec
    rw[hφ]at k2;cases k2
    rw[List.getElem?_set_self d3]at k1
    cases k1
    rw[h4 b d1,if_pos rfl]at k3
    have:zF l'=zF l2:=by injection k3 with k3;injection k3
    have:=zAi this
    subst this
    by_cases eo:o=off
    ·subst eo;exact .inr (.inr ⟨rfl,hnew _ _ k4 k5⟩)
    ·rcases hold o _ _ k4 k5 eo with ⟨q1,q2⟩|q
     ·exact .inl (.cell c o b cs l e _ _ hst hφ hg q1 q2)
     ·exact .inr (.inl q)
   ·rw[List.getElem?_set_ne (Ne.symm ec)]at k1
    left
    refine .cell c o b' cs2 l2 e2 _ _ k1 k2 ?_ k4 k5
    rw[←hne b' (hs.dom c b' k2).1 (by rintro rfl;exact ec (hs.inj _ _ _ k2 hφ))];exact k3
 refine⟨H',h1,⟨by rw[h2];exact hs.nok,by rw[h2,h3];exact hs.fzn,hs.fr,?_,?_,hs.inj,?_,?_,?_,?_,?_,hs.pnew⟩,⟨h3,fun c hc=>by rw[h2];exact hc,fun c hc=>hne c (hs.prot c hc).1 (by rintro rfl;obtain⟨cs0,q⟩:=(hs.prot _ hc).2.2.1 a hφ;rw[hst]at q;cases q),fun c _ hw _=>by
  by_cases ec:c=b
  ·subst ec;rw[hg];exact .cells
  ·exact .of_eq (hne c hw ec)⟩⟩
 ·intro c x hc
  have hc:(s.st.set a (.box cs'))[c]? =some x:=hc
  by_cases ec:c=a
  ·subst ec
   rw[List.getElem?_set_self d3]at hc
   cases hc
   exact⟨b,l',e,hφ,by rw[h4 b d1,if_pos rfl],hl⟩
  ·rw[List.getElem?_set_ne (Ne.symm ec)]at hc
   exact(hs.bx c x hc).move φ.le_refl S.le_refl fun b' q1=>hne b' (hs.dom c b' q1).1 (by rintro rfl;exact ec (hs.inj _ _ _ q1 hφ))
 ·intro c b' hc
  obtain⟨q1,q2,q3,q4⟩:=hs.dom c b' hc
  exact⟨q1,by rw[h2];exact q2,by show c<(s.st.set a _).length;simpa using q3,fun q=>by rw[h3];exact q4 (q.set hst fun _ q=>by cases q)⟩
 ·intro c m hc
  obtain⟨q1,q2,q3,q4⟩:=hs.mem c m hc
  refine⟨q1,by rw[h2];exact q2,fun a' ha'=>?_,by rw[hne c q1 (hSb c m hc)];exact q4⟩
  obtain⟨cs0,q⟩:=q3 a' ha'
  have hne':a'≠a:=by rintro rfl;rw[hst]at q;cases q
  exact⟨cs0,by show(s.st.set a _)[a']? =_;rw[List.getElem?_set_ne (Ne.symm hne')];exact q⟩
 ·intro lo v u c ha hc
  rcases key _ _ _ ha with ha|hq|⟨_,hq⟩
  ·obtain⟨q1,m,e',sh',q2⟩:=hs.own lo v u c ha hc
   obtain⟨m',hm⟩:=own_S (ha.vu hs) hc
   exact⟨by rw[h3];exact q1,m,e',sh',by rw[hne c (zDe hs ha hc).1 (hSb c m' hm)];exact q2⟩
  ·rw[hq]at hc;cases hc
  ·obtain⟨q1,⟨m,e',sh',q2⟩,_⟩:=hq c hc
   have hcb:c≠b:=by
    rintro rfl
    have hv:VU φ S v u:=by
     cases ha with
     |slot i hi=>exact hs.fr i hi
     |cell c2 o b' cs2 l2 e2 _ _ k1 k2 k3 k4 k5=>
      rename_i hlo
      cases hlo
      have k1:(s.st.set a (.box cs'))[a]? =some (.box cs2):=k1
      rw[List.getElem?_set_self d3]at k1
      cases k1
      rw[hφ]at k2;cases k2
      rw[h4 _ d1,if_pos rfl]at k3
      have:zF l'=zF l2:=by injection k3 with k3;injection k3
      have:=zAi this
      subst this
      obtain⟨w,w1,w2⟩:=hl.get k5
      rw[k4]at w1;cases w1;exact w2
    obtain⟨m',hm⟩:=own_S hv hc
    exact hSb _ m' hm rfl
   have hw:c.wf:=by
    cases hcc:c with
    |over=>rw[hcc,CH.get_over]at q2;cases q2
    |mk _ _ _ _ _ _=>
     have hv:VU φ S v u:=by
      cases ha with
      |slot i hi=>exact hs.fr i hi
      |cell c2 o b' cs2 l2 e2 _ _ k1 k2 k3 k4 k5=>
       rename_i hlo
       cases hlo
       have k1:(s.st.set a (.box cs'))[a]? =some (.box cs2):=k1
       rw[List.getElem?_set_self d3]at k1
       cases k1
       rw[hφ]at k2;cases k2
       rw[h4 _ d1,if_pos rfl]at k3
       have:zF l'=zF l2:=by injection k3 with k3;injection k3
       have:=zAi this
       subst this
       obtain⟨w,w1,w2⟩:=hl.get k5
       rw[k4]at w1;cases w1;exact w2
     obtain⟨m',hm⟩:=own_S hv hc
     rw[←hcc];exact(hs.mem _ _ hm).1
   exact⟨by rw[h3];exact q1,m,e',sh',by rw[hne c hw hcb];exact q2⟩
 ·intro lo lo' v u v' u' c ha ha' hc hc'
  rcases key _ _ _ ha with ka|hq|⟨e1,hq⟩
  ·rcases key _ _ _ ha' with ka'|hq'|⟨e2,hq'⟩
   ·exact hs.excl lo lo' v u v' u' c ka ka' hc hc'
   ·rw[hq']at hc';cases hc'
   ·exact absurd hc ((hq' c hc').2.2.1 _ _ _ ka)
  ·rw[hq]at hc;cases hc
  ·rcases key _ _ _ ha' with ka'|hq'|⟨e2,hq'⟩
   ·exact absurd hc' ((hq c hc).2.2.1 _ _ _ ka')
   ·rw[hq']at hc';cases hc'
   ·rw[e1,e2]
 ·intro p hp
  have hp:p∈zEY (fun p=> !(p.2.isCell a)) s.al:=hp
  rw[zGm]at hp
  obtain⟨p1,p2⟩:=List.mem_filter.1 hp
  obtain⟨q1,v,u,q2,q3⟩:=hs.ali p p1
  refine⟨q1,v,u,?_,q3⟩
  cases hlo:p.2 with
  |slot i=>rw[hlo]at q2;cases q2 with|slot _ hi=>exact .slot i hi
  |cell c o=>
   rw[hlo]at q2
   have ec:c≠a:=by rintro rfl;rw[hlo]at p2;simp[Lo.isCell]at p2
   cases q2 with
   |cell _ _ b' cs2 l2 e2 _ _ k1 k2 k3 k4 k5=>
    refine .cell c o b' cs2 l2 e2 _ _ (by show(s.st.set a _)[c]? =_;rw[List.getElem?_set_ne (Ne.symm ec)];exact k1) k2 ?_ k4 k5
    rw[hne b' (hs.dom c b' k2).1 (by rintro rfl;exact ec (hs.inj _ _ _ k2 hφ))];exact k3
 ·intro c hc
  obtain⟨q1,q2,q3,q4⟩:=hs.prot c hc
  refine⟨q1,by rw[h2];exact q2,fun a' ha'=>?_,fun lo v u ha=>?_⟩
  ·obtain⟨cs0,q⟩:=q3 a' ha'
   have hne':a'≠a:=by rintro rfl;rw[hst]at q;cases q
   exact⟨cs0,by show(s.st.set a _)[a']? =_;rw[List.getElem?_set_ne (Ne.symm hne')];exact q⟩
  rcases key _ _ _ ha with ha|hq|⟨_,hq⟩
  ·exact q4 lo v u ha
  ·rw[hq];simp
  ·intro he;exact(hq c he).2.2.2 hc
theorem SR.dfr(hs:SR Pr φ S s tm H){b:Id}{t:Bool}(t':Bool)(hw:b.wf)(hf:H.fz≤b.num)(hg:H.get b=some (.dfr t))(hp: ¬ Pr b):
  ∃H',H.set b (.dfr t')=some H'∧SR Pr φ S s tm H'∧H'.n=H.n∧H'.fz=H.fz∧∀j:Id,j.wf→j≠b→H'.get j=H.get j:=by
 obtain⟨H',h1,h2,h3,h4⟩:=set_of hw hf (.dfr t')
 have hne:∀c,c.wf→c≠b→H'.get c=H.get c:=fun c hc hcb=>by rw[h4 c hc,if_neg hcb]
 have hcell:∀(c:Id) cs e st sh,H.get c=some (.cells cs e st sh)→c≠b:=by rintro c cs e st sh h rfl;rw[hg]at h;cases h
 have key:∀lo v u,At φ s tm H' lo v u→At φ s tm H lo v u:=by
  intro lo v u ha
  cases ha with
  |slot i hi=>exact .slot i hi
  |cell a o c cs l e _ _ k1 k2 k3 k4 k5=>
   by_cases ec:c=b
   ·subst ec;rw[h4 c hw,if_pos rfl]at k3;cases k3
   ·exact .cell a o c cs l e _ _ k1 k2 (by rw[←hne c (hs.dom a c k2).1 ec];exact k3) k4 k5
 have key':∀lo v u,At φ s tm H lo v u→At φ s tm H' lo v u:=by
  intro lo v u ha
  cases ha with
  |slot i hi=>exact .slot i hi
  |cell a o c cs l e _ _ k1 k2 k3 k4 k5=>exact .cell a o c cs l e _ _ k1 k2 (by rw[hne c (hs.dom a c k2).1 (hcell _ _ _ _ _ k3)];exact k3) k4 k5
 refine⟨H',h1,⟨by rw[h2];exact hs.nok,by rw[h2,h3];exact hs.fzn,hs.fr,?_,?_,hs.inj,?_,?_,?_,?_,?_,hs.pnew⟩,h2,h3,hne⟩
 ·intro a x ha
  have hx:=hs.bx a x ha
  cases x with
  |box cs=>obtain⟨c,l,e,q1,q2,q3⟩:=hx;exact⟨c,l,e,q1,by rw[hne c (hs.dom a c q1).1 (hcell _ _ _ _ _ q2)];exact q2,q3⟩
  |froz cs=>exact hx
  |map es=>obtain⟨c,l,e,q1,q2,q3⟩:=hx;exact⟨c,l,e,q1,by rw[hne c (hs.dom a c q1).1 (by rintro rfl;rw[hg]at q2;cases q2)];exact q2,q3⟩
  |loop q l=>obtain⟨c,st,pe,fn,tm,d,q1,q2,q3⟩:=hx;exact⟨c,st,pe,fn,tm,d,q1,by rw[hne c (hs.dom a c q1).1 (by rintro rfl;rw[hg]at q2;cases q2)];exact q2,q3⟩
  |dead=>trivial
  |fmap es=>obtain⟨c,l,e,q1,q2,q3⟩:=hx;exact⟨c,l,e,q1,by rw[hne c (hs.dom a c q1).1 (by rintro rfl;rw[hg]at q2;cases q2)];exact q2,q3⟩
 ·intro a c ha
  obtain⟨q1,q2,q3,q4⟩:=hs.dom a c ha
  exact⟨q1,by rw[h2];exact q2,q3,by rw[h3];exact q4⟩
 ·intro c l hc
  obtain⟨q1,q2,q3,q4⟩:=hs.mem c l hc
  refine⟨q1,by rw[h2];exact q2,q3,?_⟩
  have ec:c≠b:=by
   rintro rfl
   rcases q4 with ⟨e',st,sh',r1,r2⟩|r1<;>rw[hg]at r1<;>cases r1
  rw[hne c q1 ec];exact q4
 ·intro lo v u c ha hc
  obtain⟨q1,m',e',sh',q2⟩:=hs.own lo v u c (key _ _ _ ha) hc
  exact⟨by rw[h3];exact q1,m',e',sh',by rw[hne c (zDe hs (key _ _ _ ha) hc).1 (hcell _ _ _ _ _ q2)];exact q2⟩
 ·intro lo lo' v u v' u' c ha ha' hc hc'
  exact hs.excl lo lo' v u v' u' c (key _ _ _ ha) (key _ _ _ ha') hc hc'
 ·intro p hpp
  obtain⟨q1,v,u,q2,q3⟩:=hs.ali p hpp
  exact⟨q1,v,u,key' _ _ _ q2,q3⟩
 ·intro c hc
  obtain⟨q1,q2,q3,q4⟩:=hs.prot c hc
  exact⟨q1,by rw[h2];exact q2,q3,fun lo v u ha=>q4 lo v u (key _ _ _ ha)⟩
theorem dfrs_run:∀(ds:List Id) {H:CH},SR Pr φ S s tm H→ds.Nodup→(∀b∈ds,b.wf∧H.get b=some (.dfr false)∧H.fz≤b.num∧ ¬ Pr b)→
  ∃H',zAN ds H=some H'∧SR Pr φ S s tm H'∧H'.n=H.n∧H'.fz=H.fz∧∀j:Id,j.wf→j ∉ ds→H'.get j=H.get j:=by
 intro ds
 induction ds with
 |nil=>intro H hs _ _;exact⟨H,rfl,hs,rfl,rfl,fun _ _ _=>rfl⟩
 |cons b ds ih=>
  intro H hs hn hb
  obtain⟨q1,q2,q3,q4⟩:=hb b List.mem_cons_self
  obtain⟨n1,n2⟩:=List.nodup_cons.1 hn
  obtain⟨H1,a1,a2,a3,a4,a5⟩:=hs.dfr true q1 q3 q2 q4
  obtain⟨H2,b1,b2,b3,b4,b5⟩:=ih a2 n2 fun c hc=>by
   obtain⟨w1,w2,w3,w4⟩:=hb c (List.mem_cons_of_mem _ hc)
   exact⟨w1,by rw[a5 c w1 (by rintro rfl;exact n1 hc)];exact w2,by rw[a4];exact w3,w4⟩
  refine⟨H2,?_,b2,b3.trans a3,b4.trans a4,fun j hj hjn=>?_⟩
  ·show onDfr none (fun t=>cond t none (opt none (zAN ds) (H.set b (.dfr true)))) (H.get b)=_
   rw[q2]
   show opt none (zAN ds) (H.set b (.dfr true))=_
   rw[a1];exact b1
  ·rw[b5 j hj fun h=>hjn (List.mem_cons_of_mem _ h),a5 j hj (by rintro rfl;exact hjn List.mem_cons_self)]
end Vam
namespace Vam
open Go
variable {Pr:Prt}{φ φ':BMap}{S S':SMap}{s s':St}{tm tm':TT}{H H':CH}{P:Program}{is:FuncId→Bool}{orc:Known}
theorem zDj{v:V}{a off:Nat}(h:VU φ S v (.box a off)):∃b,φ a=some b∧v=.ptr b off:=by cases h with|box _ b _ hk=>exact⟨b,hk,rfl⟩
theorem eref_of{v:V}{cs:List U}{off:Nat}(h:VU φ S v (.eref cs off)):∃b l l1 l2 p,S b=some l∧l.drop p=l1++l2∧LU φ S l1 cs∧v=.ptr b (p+off):=by
 cases h with|eref b l l1 l2 p _ _ h1 h2 h3=>exact⟨b,l,l1,l2,p,h1,h2,h3,rfl⟩
theorem zHq{v:V}{cs:List U}(h:VU φ S v (.agg cs)):∃l,v=.agg (zF l)∧LU φ S l cs:=by cases h with|agg l _ h=>exact⟨l,rfl,h⟩
theorem tup_of{v:V}{cs:List U}(h:VU φ S v (.tup cs)):∃l,v=.tup (zF l)∧LU φ S l cs:=by cases h with|tup l _ h=>exact⟨l,rfl,h⟩
section fields
variable {all l:List Oper}{d:Nat}{x y:Operand}{t t' xt yt ft:TypeId}{p:String}{e:Array Edge}{f a off fo n:Nat}{cs:List U}{u:U}{Q:St→Prop}
theorem o_faddr(hd:Nat.blt d 1024=true)(hx:zQ s x=.box a off)(hf:zc P xt f=some (fo,ft))(k:WpO P is orc all l (s.put d (.box a (off+fo))) Q):
  WpO P is orc all (⟨some d,.fieldAddr xt x f,t,p,e,none⟩::l) s Q:=by
 refine wm hd (fun w=>rfl) (fun Pr φ S tm H hs=>?_) k
 have h1:=zK hs x
 rw[hx]at h1
 obtain⟨b,h2,h3⟩:=zDj h1
 refine⟨.ptr b (off+fo),fun E=>?_,.box _ _ _ h2⟩
 show zAG (zG tm x) H (zc P xt f)=_
 rw[hf,h3];exact zEO (hs.dom a b h2).1 off fo
theorem o_faddrR(hd:Nat.blt d 1024=true)(hx:zQ s x=.eref cs off)(hf:zc P xt f=some (fo,ft))(k:WpO P is orc all l (s.put d (.eref cs (off+fo))) Q):
  WpO P is orc all (⟨some d,.fieldAddr xt x f,t,p,e,none⟩::l) s Q:=by
 refine wm hd (fun w=>rfl) (fun Pr φ S tm H hs=>?_) k
 have h1:=zK hs x
 rw[hx]at h1
 obtain⟨b,m,l1,l2,q,h2,h3,h4,h5⟩:=eref_of h1
 refine⟨.ptr b (q+(off+fo)),fun E=>?_,.eref b m l1 l2 q _ _ h2 h3 h4⟩
 show zAG (zG tm x) H (zc P xt f)=_
 rw[hf,h5]
 show zCf H b (q+off) fo=_
 rw[zEO (hs.mem b m h2).1,Nat.add_assoc]
theorem o_extract(hd:Nat.blt d 1024=true)(hx:zQ s x=.tup cs)(hc:cs[n]? =some u)(k:WpO P is orc all l (s.put d (dg u)) Q):
  WpO P is orc all (⟨some d,.extract x n,t,p,e,none⟩::l) s Q:=by
 refine wm hd (fun w=>yk w u) (fun Pr φ S tm H hs=>?_) k
 have h1:=zK hs x
 rw[hx]at h1
 obtain⟨m,h2,h3⟩:=tup_of h1
 obtain⟨v,h4,h5⟩:=h3.get hc
 refine⟨v,fun E=>?_,h5.dg⟩
 show zCT H n (zG tm x)=_
 rw[h2]
 show zt H (nthV (zF m) n)=_
 rw[nthV_of,h4];rfl
theorem part_one{m:List V}{v:V}(hsh:shOf P ft=.one)(h:m[fo]? =some v):zBm P ft (zF m) fo=some v:=by
 unfold zBm;rw[hsh]
 show nthV (zF m) fo=_
 rw[nthV_of,h]
theorem load_one{b:Id}{m:List V}{v:V}(hsh:shOf P t=.one)(hr:zEE (H.get b) m)(h:m[off]? =some v):zBB P t H b off=some v:=by
 refine loadV_of ?_
 unfold zFf;rw[hsh]
 show read1 H b off=_
 unfold read1
 rcases hr with ⟨e,st,sh,hg,hst⟩|hg
 ·rw[hg]
  show cond (Nat.beq st 2) none (nthV (zF m) off)=_
  rw[beq_ne hst]
  show nthV (zF m) off=_
  rw[nthV_of,h]
 ·rw[hg]
  show nthV (zF m) off=_
  rw[nthV_of,h]
theorem zGW{b:Id}{m:List V}(hr:zEE (H.get b) m)(h:n=0∨off+n≤m.length):zX H b off n=some (zF ((m.drop off).take n)):=by
 unfold zX
 cases n with
 |zero=>simp;rfl
 |succ n=>
  have h:off+(n+1)≤m.length:=h.resolve_left (by omega)
  show yS none (rd off (n+1)) (H.get b)=_
  have key:zEm (n+1) (zDy (zF m) off)=some (zF ((m.drop off).take (n+1))):=by rw[dropV_of,takeV_of,if_pos (by simp;omega)]
  rcases hr with ⟨e,st,sh,hg,hst⟩|hg
  ·rw[hg]
   show cond (Nat.beq st 2) none (zEm (n+1) (zDy (zF m) off))=_
   rw[beq_ne hst];exact key
  ·rw[hg];exact key
theorem zGk{b:Id}{m:List V}(hsh:shOf P t=.many n)(hr:zEE (H.get b) m)(h:n=0∨off+n≤m.length):zBB P t H b off=some (.agg (zF ((m.drop off).take n))):=by
 refine loadV_of ?_
 unfold zFf;rw[hsh]
 show opt none (fun l=>some (V.agg l)) (zX H b off n)=_
 rw[zGW hr h];rfl
noncomputable def ldAl(d a off:Nat)(u:U)(al:List (Nat×Lo)):List (Nat×Lo):=match u with
 | .lst .own _ _=>(d,.cell a off)::al
 |_=>al
noncomputable def St.ld(s:St)(d a off:Nat)(u:U):St:=⟨fun j=>cond (Nat.beq j d) (dg u) (s.fr j),ldAl d a off u (s.put d .junk).al,s.st⟩
theorem zI(hd:Nat.blt d 1024=true)(hx:zQ s x=.box a off)(hb:s.st[a]? =some (.box cs))(hsh:shOf P t'=.one)(hc:cs[off]? =some u)(k:WpO P is orc all l (s.ld d a off u) Q):
  WpO P is orc all (⟨some d,.load t' x,t,p,e,none⟩::l) s Q:=by
 intro Pr φ S tm H hs
 have h1:=zK hs x
 rw[hx]at h1
 obtain⟨b,h2,h3⟩:=zDj h1
 obtain⟨b',m,ty,q1,q2,q3⟩:=hs.box a cs hb
 rw[h2]at q1;cases q1
 obtain⟨v,h4,h5⟩:=q3.get hc
 have hput:SR Pr φ S (s.put d (dg u)) (TT.set v tm d) H:=hs.put' (yu hd) h5.dg (yk _ _)
 have hld:SR Pr φ S (s.ld d a off u) (TT.set v tm d) H:=by
  have hno:(∀z es,u≠.lst .own z es)→SR Pr φ S (s.ld d a off u) (TT.set v tm d) H:=by
   intro hu
   have hm:∀al,ldAl d a off u al=al:=by
    intro al;unfold ldAl
    split
    ·rename_i z es;exact absurd rfl (hu z es)
    ·rfl
   have e:s.ld d a off u=s.put d (dg u):=by unfold St.ld;rw[hm];rfl
   rw[e];exact hput
  cases u with
  |lst kd z es=>
   cases kd with
   |own=>
    refine hput.addAl (yu hd) (v:=v) (At.of_put (yu hd) (At.cell a off b cs m ty v _ hb h2 q2 h4 hc) (by simp)) ?_
    rw[TT.get_set _ tm d d (yu hd) (yu hd),if_pos rfl]
   |_=>exact hno (by simp)
  |_=>exact hno (by simp)
 obtain⟨s2,tm2,H2,φ2,S2,⟨n2,k1⟩,k2⟩:=k Pr φ S _ H hld
 refine⟨s2,tm2,H2,φ2,S2,⟨n2,fun n hn=>?_⟩,k2⟩
 show zCn P (zO true P is orc n) (some d) (.load t' x) tm H (zBq P (zO true P is orc n) all l)=_
 have hev:evOp P (zO true P is orc n) tm H (.load t' x)=.ok v H:=by
  show zAD R.no (zES P t' H) (zG tm x)=_
  rw[h3]
  show zt H (zBB P t' H b off)=_
  rw[load_one hsh (.inl ⟨ty,0,[],q2,by decide⟩) h4];rfl
 unfold zCn
 rw[hev]
 exact k1 n hn
theorem zg(hd:Nat.blt d 1024=true)(hx:zQ s x=.box a off)(hb:s.st[a]? =some (.box cs))(hsh:shOf P t'=.many n)(hc:Nat.ble (off+n) cs.length=true)(k:WpO P is orc all l (s.put d (.agg ((cs.drop off).take n))) Q):
  WpO P is orc all (⟨some d,.load t' x,t,p,e,none⟩::l) s Q:=by
 refine wm hd (fun w=>rfl) (fun Pr φ S tm H hs=>?_) k
 have h1:=zK hs x
 rw[hx]at h1
 obtain⟨b,h2,h3⟩:=zDj h1
 obtain⟨b',m,ty,q1,q2,q3⟩:=hs.box a cs hb
 rw[h2]at q1;cases q1
 refine⟨.agg (zF ((m.drop off).take n)),fun E=>?_,.agg _ _ ((q3.drop off).take n)⟩
 show zAD R.no (zES P t' H) (zG tm x)=_
 rw[h3]
 show zt H (zBB P t' H b off)=_
 rw[zGk hsh (.inl ⟨ty,0,[],q2,by decide⟩) (.inr (by rw[q3.len];exact Nat.le_of_ble_eq_true hc))];rfl
theorem o_loadR1(hd:Nat.blt d 1024=true)(hx:zQ s x=.eref cs off)(hsh:shOf P t'=.one)(hc:cs[off]? =some u)(k:WpO P is orc all l (s.put d (dg u)) Q):
  WpO P is orc all (⟨some d,.load t' x,t,p,e,none⟩::l) s Q:=by
 refine wm hd (fun w=>yk w u) (fun Pr φ S tm H hs=>?_) k
 have h1:=zK hs x
 rw[hx]at h1
 obtain⟨b,m,l1,l2,q,h2,h3,h4,h5⟩:=eref_of h1
 obtain⟨v,h6,h7⟩:=h4.get hc
 refine⟨v,fun E=>?_,h7.dg⟩
 show zAD R.no (zES P t' H) (zG tm x)=_
 rw[h5]
 show zt H (zBB P t' H b (q+off))=_
 rw[load_one hsh (hs.mem b m h2).2.2.2 (v:=v) ?_];rfl
 have:(m.drop q)[off]? =some v:=by rw[h3,List.getElem?_append_left (by exact(List.getElem?_eq_some_iff.1 h6).1)];exact h6
 rwa [List.getElem?_drop]at this
theorem yL(hd:Nat.blt d 1024=true)(hx:zQ s x=.eref cs off)(hsh:shOf P t'=.many n)(hc:Nat.ble (off+n) cs.length=true)(k:WpO P is orc all l (s.put d (.agg ((cs.drop off).take n))) Q):
  WpO P is orc all (⟨some d,.load t' x,t,p,e,none⟩::l) s Q:=by
 refine wm hd (fun w=>rfl) (fun Pr φ S tm H hs=>?_) k
 have h1:=zK hs x
 rw[hx]at h1
 obtain⟨b,m,l1,l2,q,h2,h3,h4,h5⟩:=eref_of h1
 have hc:=Nat.le_of_ble_eq_true hc
 have hlen:=h4.len
 have hm:(m.drop q).length=l1.length+l2.length:=by rw[h3];simp
 have e1:(m.drop (q+off)).take n=(l1.drop off).take n:=by
  rw[←List.drop_drop,h3,List.drop_append_of_le_length (by omega),List.take_append_of_le_length (by simp;omega)]
 refine⟨.agg (zF ((l1.drop off).take n)),fun E=>?_,.agg _ _ ((h4.drop off).take n)⟩
 show zAD R.no (zES P t' H) (zG tm x)=_
 rw[h5]
 show zt H (zBB P t' H b (q+off))=_
 rw[zGk hsh (hs.mem b m h2).2.2.2 (by simp at hm;omega),e1];rfl
end fields
end Vam
namespace Vam
open Go
variable {Pr:Prt}{φ φ':BMap}{S S':SMap}{s s':St}{tm tm':TT}{H H':CH}{P:Program}{is:FuncId→Bool}{orc:Known}
def oneU(u:U):Bool:=match u with
 | .agg _=>false
 | .tup _=>false
 | .junk=>false
 |_=>true
def zDu(u:U):Bool:=match u with
 | .junk=>false
 |_=>true
theorem oneC_of{v:V}{u:U}(h:VU φ S v u)(hu:oneU u=true):oneC v=true:=by
 cases h with
 |junk=>cases hu
 |agg=>cases hu
 |tup=>cases hu
 |_=>rfl
theorem allOne_of{l:List V}{us:List U}(h:LU φ S l us)(hu:us.all oneU=true):we (zF l)=true:=by
 induction us generalizing l with
 |nil=>cases h;rfl
 |cons u us ih=>
  cases h with
  |cons x l _ _ h1 h2=>
   simp only[List.all_cons,Bool.and_eq_true]at hu
   show cond (oneC x) (we (zF l)) false=true
   rw[oneC_of h1 hu.1];exact ih h2 hu.2
theorem cells_of{v:V}{u:U}(h:VU φ S v u)(hu:zDu u=true):∃c,zBF v=zF c∧LU φ S c (zx u):=by
 cases h with
 |junk=>cases hu
 |agg l cs h=>exact⟨l,rfl,h⟩
 |bool b=>exact⟨_,rfl,.cons _ _ _ _ (.bool b) .nil⟩
 |int k n=>exact⟨_,rfl,.cons _ _ _ _ (.int k n) .nil⟩
 |str s=>exact⟨_,rfl,.cons _ _ _ _ (.str s) .nil⟩
 |nilp=>exact⟨_,rfl,.cons _ _ _ _ .nilp .nil⟩
 |box a b off h=>exact⟨_,rfl,.cons _ _ _ _ (.box a b off h) .nil⟩
 |sl a b off len cc sz h hc h0=>exact⟨_,rfl,.cons _ _ _ _ (.sl a b off len cc sz h hc h0) .nil⟩
 |eref b l l1 l2 p cs off h1 h2 h3=>exact⟨_,rfl,.cons _ _ _ _ (.eref b l l1 l2 p cs off h1 h2 h3) .nil⟩
 |nils k z=>exact⟨_,rfl,.cons _ _ _ _ (.nils k z) .nil⟩
 |over k sz cc h0 hk=>exact⟨_,rfl,.cons _ _ _ _ (.over k sz cc h0 hk) .nil⟩
 |slice b off len cc sz l l1 l2 k es h1 h2 h3 h4 h5 h6 h7=>exact⟨_,rfl,.cons _ _ _ _ (.slice b off len cc sz l l1 l2 k es h1 h2 h3 h4 h5 h6 h7) .nil⟩
 |mp a b h=>exact⟨_,rfl,.cons _ _ _ _ (.mp a b h) .nil⟩
 |nilm=>exact⟨_,rfl,.cons _ _ _ _ .nilm .nil⟩
 |fn f A B a b h1 h2=>exact⟨_,rfl,.cons _ _ _ _ (.fn f A B a b h1 h2) .nil⟩
 |nilf=>exact⟨_,rfl,.cons _ _ _ _ .nilf .nil⟩
 |yld a b hk=>exact⟨[.yield b],rfl,.cons _ _ _ _ (.yld a b hk) .nil⟩
 |tup l cs h=>exact⟨_,rfl,.cons _ _ _ _ (.tup l cs h) .nil⟩
theorem LU.dgs{l:List V}{us:List U}(h:LU φ S l us):LU φ S l (us.map dg):=by
 induction us generalizing l with
 |nil=>cases h;exact .nil
 |cons u us ih=>cases h with|cons x l _ _ h1 h2=>exact .cons _ _ _ _ (VU.dg h1) (ih h2)
theorem zHW{α:Type}(l lv:List α)(off:Nat)(h:off+lv.length≤l.length)(o:Nat):
  (l.take off++lv++l.drop (off+lv.length))[o]? =if o<off then l[o]? else if o<off+lv.length then lv[o - off]? else l[o]? :=by
 have h1:(l.take off).length=off:=by simp;omega
 by_cases a:o<off
 ·rw[if_pos a,List.append_assoc,List.getElem?_append_left (by omega),List.getElem?_take_of_lt a]
 ·rw[if_neg a]
  by_cases b:o<off+lv.length
  ·rw[if_pos b,List.append_assoc,List.getElem?_append_right (by omega),List.getElem?_append_left (by omega),h1]
  ·rw[if_neg b,List.append_assoc,List.getElem?_append_right (by omega),List.getElem?_append_right (by omega),h1,List.getElem?_drop]
   congr 1;omega
theorem write_run{b:Id}{m:List V}{ty:TypeId}{off:Nat}{vs:List V}(hg:H.get b=some (.cells (zF m) ty 0 []))(h1:we (zF vs)=true)(h2:off+vs.length≤m.length)
  (h3:H.set b (.cells (zF (m.take off++vs++m.drop (off+vs.length))) ty 0 [])=some H'):zk H b off (zF vs)=some H':=by
 unfold zk
 rw[hg]
 show cond (we (zF vs)) (opt none (fun cs'=>opt none (kill []) (H.set b (.cells cs' ty 0 []))) (putV (zF m) off (zF vs))) none=_
 rw[h1,putV_of m off vs h2]
 show opt none (kill []) (H.set b (.cells (zF (m.take off++vs++m.drop (off+vs.length))) ty 0 []))=_
 rw[h3];rfl
section stores
variable {all l:List Oper}{d:Nat}{x y:Operand}{t t' xt yt ft:TypeId}{p:String}{e:Array Edge}{f a off fo n:Nat}{cs us:List U}{u:U}{Q:St→Prop}
theorem dropO_st(x:Operand):(s.dropO x).st=s.st:=by cases x<;>rfl
theorem o_store1(hx:zQ s x=.box a off)(hb:s.st[a]? =some (.box cs))(hsh:shOf P t'=.one)(hl:Nat.blt off cs.length=true)(ho:oneU (zQ s y)=true)
  (k:WpO P is orc all l ((s.dropO y).wr a (cs.set off (zQ s y))) Q):WpO P is orc all (⟨none,.store t' x y,t,p,e,none⟩::l) s Q:=by
 intro Pr φ S tm H hs
 have h1:=zK hs x
 rw[hx]at h1
 obtain⟨b,h2,h3⟩:=zDj h1
 have hl:=yu hl
 obtain⟨g1,g2⟩:=zHA hs y
 have hb':(s.dropO y).st[a]? =some (.box cs):=by rw[dropO_st];exact hb
 obtain⟨b',m,ty,q1,q2,q3⟩:=g1.box a cs hb'
 rw[h2]at q1;cases q1
 have hml:off<m.length:=by rw[q3.len];exact hl
 obtain⟨H1,w1,w2,w3⟩:=g1.write hb' h2 q2 (q3.set off (zK hs y)) (off:=off)
  (fun o v w r1 r2 hne=>.inl (by rw[List.getElem?_set_ne (Ne.symm hne)]at r1 r2;exact⟨r1,r2⟩))
  (fun v w r1 r2=>by
   rw[List.getElem?_set_self hml]at r1;rw[List.getElem?_set_self hl]at r2
   cases r1;cases r2;exact g2)
 obtain⟨s2,tm2,H2,φ2,S2,⟨n2,k1⟩,k2,k3,k4,k5,k6⟩:=k Pr φ S _ _ w2
 refine⟨s2,tm2,H2,φ2,S2,⟨n2,fun n hn=>?_⟩,k2,k3,k4,w3.trans k5,k6⟩
 show zCn P (zO true P is orc n) none (.store t' x y) tm H (zBq P (zO true P is orc n) all l)=_
 have hev:evOp P (zO true P is orc n) tm H (.store t' x y)=.ok undef H1:=by
  show zAD R.no (zGg P t' (zG tm y) H) (zG tm x)=_
  rw[h3]
  show zEK (zBZ P t' (zG tm y) H b off)=_
  unfold zBZ
  rw[hsh]
  show zEK (zk H b off (zF [zG tm y]))=_
  rw[write_run q2 (vs:=[zG tm y]) (H':=H1) ?_ ?_ ?_]
  ·rfl
  ·show cond (oneC (zG tm y)) true false=true
   rw[oneC_of (zK hs y) ho];rfl
  ·show off+1≤m.length;omega
  ·rw[List.set_eq_take_append_cons_drop,if_pos hml]at w1
   simpa using w1
 unfold zCn
 rw[hev]
 exact k1 n hn
theorem zS(hx:zQ s x=.box a off)(hb:s.st[a]? =some (.box cs))(hsh:shOf P t'=.many n)(hy:zQ s y=.agg us)(hn:Nat.beq us.length n=true)(h0:Nat.blt 0 n=true)(hl:Nat.ble (off+n) cs.length=true)(ho:us.all oneU=true)
  (k:WpO P is orc all l (s.wr a (cs.take off++us.map dg++cs.drop (off+n))) Q):WpO P is orc all (⟨none,.store t' x y,t,p,e,none⟩::l) s Q:=by
 intro Pr φ S tm H hs
 have h1:=zK hs x
 rw[hx]at h1
 obtain⟨b,h2,h3⟩:=zDj h1
 have hl:=Nat.le_of_ble_eq_true hl
 have hn:=zl hn
 have h0:=yu h0
 have hyr:=zK hs y
 rw[hy]at hyr
 obtain⟨vs,hv,hvs⟩:=zHq hyr
 obtain⟨b',m,ty,q1,q2,q3⟩:=hs.box a cs hb
 rw[h2]at q1;cases q1
 have hlen:=hvs.len
 have hml:off+vs.length≤m.length:=by rw[q3.len];omega
 have hvn:vs.length=n:=by omega
 have hdl:(us.map dg).length=n:=by simp[hn]
 have own0:∀(o:Nat) (v:V) (w:U),(us.map dg)[o]? =some w→yU v w=none:=by
  intro o v w hw
  rw[List.getElem?_map]at hw
  cases hq:us[o]? with
  |none=>rw[hq]at hw;cases hw
  |some w'=>rw[hq]at hw;cases hw;exact yk _ _
 have hrel:LU φ S (m.take off++vs++m.drop (off+vs.length)) (cs.take off++us.map dg++cs.drop (off+n)):=by
  rw[hvn];exact((q3.take off).append hvs.dgs).append (q3.drop _)
 have gm:=zHW m vs off hml
 have gc:=zHW cs (us.map dg) off (by rw[hdl];exact hl)
 rw[hdl]at gc;rw[hvn]at gm
 rw[hvn]at hrel
 obtain⟨H1,w1,w2,w3⟩:=hs.write hb h2 q2 hrel (off:=off)
  (fun o v w r1 r2 hne=>by
   rw[gm]at r1;rw[gc]at r2
   by_cases c1:o<off
   ·rw[if_pos c1]at r1 r2;exact .inl ⟨r1,r2⟩
   ·rw[if_neg c1]at r1 r2
    by_cases c2:o<off+n
    ·rw[if_pos c2]at r2;exact .inr (own0 _ _ _ r2)
    ·rw[if_neg c2]at r1 r2;exact .inl ⟨r1,r2⟩)
  (fun v w r1 r2=>by
   rw[gc,if_neg (by omega),if_pos (by omega)]at r2
   exact NewOk.none (own0 _ _ _ r2))
 obtain⟨s2,tm2,H2,φ2,S2,⟨n2,k1⟩,k2,k3,k4,k5,k6⟩:=k Pr φ S _ _ w2
 refine⟨s2,tm2,H2,φ2,S2,⟨n2,fun n' hn'=>?_⟩,k2,k3,k4,w3.trans k5,k6⟩
 show zCn P (zO true P is orc n') none (.store t' x y) tm H (zBq P (zO true P is orc n') all l)=_
 have hev:evOp P (zO true P is orc n') tm H (.store t' x y)=.ok undef H1:=by
  show zAD R.no (zGg P t' (zG tm y) H) (zG tm x)=_
  rw[h3]
  show zEK (zBZ P t' (zG tm y) H b off)=_
  unfold zBZ
  rw[hsh,hv]
  show zEK (cond (Nat.beq (lenV (zF vs) 0) n) (zk H b off (zF vs)) none)=_
  rw[zBV,Nat.add_zero,hvn,Nat.beq_refl]
  show zEK (zk H b off (zF vs))=_
  rw[write_run q2 (vs:=vs) (H':=H1) (allOne_of hvs ho) hml (by rw[hvn];exact w1)];rfl
 unfold zCn
 rw[hev]
 exact k1 n' hn'
def St.newB(s:St)(cs:List U):St:={s with st:=s.st++[.box cs]}
theorem newB_run(hs:SR Pr φ S s tm H){m:List V}{cs:List U}{ty:TypeId}(hm:LU φ S m cs)(hn:∀v u,u∈cs→yU v u=none):
  ∃H1,(Vam.newB H ty (zF m)=.ok (.ptr H.n 0) H1)∧SR Pr (φ.with s.st.length H.n) S (s.newB cs) tm H1∧Kept Pr H H1∧VU (φ.with s.st.length H.n) S (.ptr H.n 0) (.box s.st.length 0):=by
 obtain⟨H1,a1,a2,a3,a4⟩:=zAp R.no hs.nok (.cells (zF m) ty 0 []) (fun n H=>.ok (.ptr n 0) H)
 have hA:Alloc H H1 (.cells (zF m) ty 0 []):=⟨a2,a3,a4⟩
 exact⟨H1,a1,hs.newBox hA hm hn,hA.kept hs,.box _ _ _ (BMap.with_self _ _ _)⟩
theorem o_newB{o:Op}{cs:List U}{ty:TypeId}(hd:Nat.blt d 1024=true)(hn:∀v u,u∈cs→yU v u=none)
  (ho:∀Pr φ S tm H,SR Pr φ S s tm H→∃m,LU φ S m cs∧∀E,evOp P E tm H o=newB H ty (zF m)) (k:WpO P is orc all l ((s.newB cs).put d (.box s.st.length 0)) Q):
  WpO P is orc all (⟨some d,o,t,p,e,none⟩::l) s Q:=by
 refine o_op (R:=fun u s1=>u=.box s.st.length 0∧s1=s.newB cs) hd ?_ fun u s1 h=>by obtain⟨rfl,rfl⟩:=h;exact k
 intro Pr φ S tm H hs
 obtain⟨m,h1,h2⟩:=ho Pr φ S tm H hs
 obtain⟨H1,r1,r2,r3,r4⟩:=newB_run hs (ty:=ty) h1 hn
 exact⟨_,_,_,H1,_,S,⟨0,fun n _=>(h2 _).trans r1⟩,r2,BMap.le_with _ hs.none_st,S.le_refl,r3,r4,NewOk.none rfl,rfl,rfl⟩
theorem mem_dg{us:List U}:∀(v:V) u,u∈us.map dg→yU v u=none:=by
 intro v u hu
 obtain⟨w,_,rfl⟩:=List.mem_map.1 hu
 exact yk _ _
theorem ya(hd:Nat.blt d 1024=true)(hj:zDu (zQ s x)=true)(k:WpO P is orc all l ((s.newB ((zx (zQ s x)).map dg)).put d (.box s.st.length 0)) Q):
  WpO P is orc all (⟨some d,.box t' x,t,p,e,none⟩::l) s Q:=by
 refine o_newB (ty:=t') hd mem_dg (fun Pr φ S tm H hs=>?_) k
 obtain⟨c,h1,h2⟩:=cells_of (zK hs x) hj
 refine⟨c,h2.dgs,fun E=>?_⟩
 show newB H t' (zBF (zG tm x))=_
 rw[h1]
theorem ofVal1_notAgg{v:Value}{x l:V}(h:zFR v=some x):x≠.agg l:=by
 rintro rfl
 unfold zFR at h
 split at h<;>simp at h
theorem zEF{z:V}(h:yf P t=some z):∃m,z=zF m:=by
 unfold yf at h
 split at h
 ·split at h
  ·split at h
   ·rename_i x hx
    cases h
    unfold zCh at hx
    split at hx
    ·split at hx
     ·rename_i m _;cases hx;exact⟨m,rfl⟩
     ·cases hx
    ·refine⟨[x],?_⟩
     cases x with
     |agg l=>exact absurd rfl (ofVal1_notAgg hx)
     |_=>rfl
   ·cases h
  ·cases h
 ·cases h
theorem uOf_own(v w:V):yU v (uOf w)=none:=by cases w<;>rfl
theorem uList_own{z:V}:∀(v:V) u,u∈zBu z→yU v u=none:=by
 induction z with
 |cons x l _ ih=>
  intro v u hu
  have hu:u∈uOf x::zBu l:=hu
  rcases List.mem_cons.1 hu with rfl|hu
  ·exact uOf_own _ _
  ·exact ih v u hu
 |_=>intro v u hu;exact absurd hu (by simp[zBu])
theorem zi{z:V}(hd:Nat.blt d 1024=true)(hz:yf P t'=some z)(k:WpO P is orc all l ((s.newB (zBu z)).put d (.box s.st.length 0)) Q):
  WpO P is orc all (⟨some d,.alloc t',t,p,e,none⟩::l) s Q:=by
 obtain⟨m,rfl⟩:=zEF hz
 refine o_newB (ty:=t') hd uList_own (fun Pr φ S tm H hs=>⟨m,zCs m,fun E=>?_⟩) k
 show oAlloc H t' (yf P t')=_
 rw[hz];rfl
end stores
end Vam
