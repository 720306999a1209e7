import Derived.Test.YtpckmojdekdbbaaGreatVamE
import Derived.RowKit3
set_option linter.unusedVariables false
set_option linter.unusedSimpArgs false
namespace Vam
open Go
variable {P:Program}{φ:Phi}{H H':CH}{w:World}{v:V}{E:Ev}
theorem Rel.adopt(h:Rel P φ H w)(hn:H.n.wf){x:Blk}{k:Loc}(hr:k.r<w.heap.size)(e1:H'.n=H.n.next)(e3:∀j:Id,j.wf→H'.get j=if j=H.n then some x else H.get j)
  (hx:BlkR P (φ.with H.n k) x k (w.heap[k.r]?)) (hsep:∀c l y,φ c=some l→l.r=k.r→H.get c=some y→Sep H.n x k c y l∧Sep c y l H.n x k)
  (hgl:Wr x→∀g cs,gtab g=some cs→k.r≠g):Rel P (φ.with H.n k) H' w:=by
 have hnone:=h.none_at_n hn
 have hle:=Phi.le_with k hnone
 have hget:∀b l,φ b=some l→H'.get b=H.get b:=by
  intro b l hb
  rw[e3 b (h.wf b l hb).1,if_neg]
  intro e;rw[e,hnone]at hb;cases hb
 have hgi:GInv (φ.with H.n k) H' w:=by
  intro g cs hg
  obtain⟨p1,p2,p4⟩:=h.gl g cs hg
  refine⟨p1,p2,fun b l y hb q2 q3=>?_⟩
  by_cases e:b=H.n
  ·subst e
   rw[Phi.with_self]at hb;cases hb
   rw[e3 _ hn,if_pos rfl]at q2;cases q2
   exact hgl q3 g cs hg
  ·rw[Phi.with_ne _ e]at hb
   exact p4 b l y hb ((hget b l hb).symm.trans q2) q3
 refine⟨⟨?_,?_,?_,?_⟩,hgi⟩
 ·rw[e1];exact Id.okN_next hn
 ·intro b l hb
  by_cases e:b=H.n
  ·subst e
   rw[Phi.with_self]at hb;cases hb
   exact⟨hn,by rw[e1];exact Before.self hn,hr⟩
  ·rw[Phi.with_ne _ e]at hb
   obtain⟨h1,h2,h3⟩:=h.wf b l hb
   exact⟨h1,by rw[e1];exact Before.next hn h2,h3⟩
 ·intro b l hb
  by_cases e:b=H.n
  ·subst e
   rw[Phi.with_self]at hb;cases hb
   exact⟨x,by rw[e3 _ hn,if_pos rfl],hx⟩
  ·rw[Phi.with_ne _ e]at hb
   obtain⟨y,h1,h2⟩:=h.blk b l hb
   exact⟨y,(hget b l hb).trans h1,h2.mono hle⟩
 ·intro b c l m y z hb hc hne hlr hy hz
  by_cases e:b=H.n
  ·subst e
   rw[Phi.with_self]at hb;cases hb
   rw[Phi.with_ne _ (Ne.symm hne)]at hc
   rw[e3 _ hn,if_pos rfl]at hy;cases hy
   exact(hsep c m z hc hlr.symm ((hget c m hc).symm.trans hz)).1
  ·rw[Phi.with_ne _ e]at hb
   by_cases e':c=H.n
   ·subst e'
    rw[Phi.with_self]at hc;cases hc
    rw[e3 _ hn,if_pos rfl]at hz;cases hz
    exact(hsep b l y hb hlr ((hget b l hb).symm.trans hy)).2
   ·rw[Phi.with_ne _ e']at hc
    exact h.sep b c l m y z hb hc hne hlr ((hget b l hb).symm.trans hy) ((hget c m hc).symm.trans hz)
def zEV(k:Loc)(off:Nat):Loc:=⟨k.r,k.o+off,k.m - off⟩
structure InI(P:Program)(φ:Phi)(w:World)(φG:Phi)(G:CH)(os:List (Id×Nat)):Prop where
 rel:Rel P φG G w
 fz:G.fz=0
 num:G.n.wf→G.n.num=os.length
 dom:∀b k,φG b=some k→(∃cs,G.get b=some (.arg cs))∧∃c off kc,os[b.num]? =some (c,off)∧φ c=some kc∧k=zEV kc off∧off≤kc.m
 all:∀i,i<os.length→∃b k,b.num=i∧φG b=some k
theorem GInv.none{φ:Phi}{H G:CH}{w:World}(h:GInv φ H w):GInv (fun _=>none) G w:=fun g cs hg=>⟨(h g cs hg).1,(h g cs hg).2.1,fun b k x hb=>by cases hb⟩
theorem InI.start{P:Program}{φ:Phi}{H:CH}{w:World}(h:Rel P φ H w):InI P φ w (fun _=>none) H0 [] where
 rel:=⟨⟨rfl,fun b k h=>(by cases h),fun b k h=>(by cases h),fun b c l k x y h=>(by cases h)⟩,h.gl.none⟩
 fz:=rfl
 num:=fun _=>rfl
 dom:=fun b k h=>(by cases h)
 all:=fun i h=>(by cases h)
theorem zAU{α:Type}(k:Nat→α)(n:Nat):forceN k n=k n:=by cases n<;>rfl
theorem zAy{α:Type}(k:Int→α)(i:Int):zCk k i=k i:=by
 cases i with
 |ofNat n=>cases n<;>rfl
 |negSucc n=>cases n<;>rfl
theorem zAw{r:Mv}{k:V→CH→List (Id×Nat)→Mv}{v:V}{G:CH}{o:List (Id×Nat)}(h:wt r k=.ok v G o):∃v₁ G₁ o₁,r=.ok v₁ G₁ o₁∧k v₁ G₁ o₁=.ok v G o:=by
 cases r with
 |no=>cases h
 |ok v₁ G₁ o₁=>exact⟨v₁,G₁,o₁,rfl,h⟩
theorem Mv.ok_ne{v:V}{G:CH}{o:List (Id×Nat)}:Mv.ok v G o≠Mv.no:=by intro h;cases h
theorem in_adopt(h:Rel P φ H w){φG:Phi}{G G':CH}{os:List (Id×Nat)}(hI:InI P φ w φG G os){b:Id}{kc:Loc}(hb:φ b=some kc){off:Nat}(hoff:off≤kc.m){cells:V}{vs:List Value}
  (hl:LR φG cells vs) (hlen:vs.length≤kc.m - off) {arr:Array Value} {el:TypeId} {fr:Nat×Nat} (harr:w.heap[kc.r]? =some (.cells arr el fr)) (hfit:kc.o+kc.m≤arr.size)
  (hat:∀i v,vs[i]? =some v→arr[kc.o+off+i]? =some v) (hn:G.n.wf) (e1:G'.n=G.n.next) (e2:G'.fz=G.fz) (e3:∀j:Id,j.wf→G'.get j=if j=G.n then some (.arg cells)else G.get j):
  InI P φ w (φG.with G.n (zEV kc off)) G' (os++[(b,off)]):=by
 have hnone:=hI.rel.none_at_n hn
 have hle:=Phi.le_with (zEV kc off) hnone
 have hnum:=hI.num hn
 refine⟨?_,e2.trans hI.fz,?_,?_,?_⟩
 ·refine Rel.adopt hI.rel hn (h.wf b kc hb).2.2 e1 e3 ?_ ?_ (fun hx=>hx.elim)
  ·refine⟨arr,el,fr,harr,?_,?_,vs,hl.mono hle,hat⟩
   ·show kc.o+off+(kc.m - off)≤arr.size;omega
   ·rw[LR.len hl];exact hlen
  ·intro c l y hc _ hy
   obtain⟨⟨cs,hcs⟩,_⟩:=hI.dom c l hc
   rw[hcs]at hy;cases hy
   exact⟨.inr (.inr (.inl ⟨fun h=>h.elim,fun h=>h.elim⟩)),.inr (.inr (.inl ⟨fun h=>h.elim,fun h=>h.elim⟩))⟩
 ·intro hwf
  rw[e1]at hwf ⊢
  rcases Id.next_wf hn with h1|⟨_,h1⟩
  ·rw[h1]at hwf;exact hwf.elim
  ·rw[h1,hnum];simp
 ·intro c l hc
  by_cases ec:c=G.n
  ·subst ec
   rw[Phi.with_self]at hc;cases hc
   refine⟨⟨cells,by rw[e3 _ hn,if_pos rfl]⟩,b,off,kc,?_,hb,rfl,hoff⟩
   rw[hnum];simp
  ·rw[Phi.with_ne _ ec]at hc
   obtain⟨⟨cs,hcs⟩,c',off',kc',h1,h2⟩:=hI.dom c l hc
   refine⟨⟨cs,by rw[e3 _ (hI.rel.wf c l hc).1,if_neg ec];exact hcs⟩,c',off',kc',?_,h2⟩
   obtain⟨h3,_⟩:=List.getElem?_eq_some_iff.1 h1
   rw[List.getElem?_append_left h3];exact h1
 ·intro i hi
  by_cases h1:i<os.length
  ·obtain⟨c,l,h2,h3⟩:=hI.all i h1
   exact⟨c,l,h2,hle c l h3⟩
  ·simp at hi
   exact⟨G.n,_,by omega,Phi.with_self φG G.n _⟩
theorem within_ok(h:Rel P φ H w){b:Id}{kc:Loc}(hb:φ b=some kc){off n:Nat}{cells:V}(hw:within (H.get b) off n=true)(hr:zX H b off n=some cells):
  off≤kc.m∧∃arr el fr vs,w.heap[kc.r]? =some (.cells arr el fr)∧kc.o+kc.m≤arr.size∧LR φ cells vs∧vs.length=n∧n≤kc.m - off∧∀i v,vs[i]? =some v→arr[kc.o+off+i]? =some v:=by
 cases n with
 |zero=>
  cases(show some V.nil=some cells from hr)
  obtain⟨x,hx,hbl⟩:=h.blk b kc hb
  have hw:yS false (fun cs _ _ _=>Nat.ble off (lenV cs 0)) (H.get b)=true:=hw
  rw[hx]at hw
  cases x with
  |cells cs' e' st' sh'=>
   obtain⟨w1,w2⟩:=zAo (no:=false) hw (by simp)
   have w3:=Nat.le_of_ble_eq_true w2
   rw[zAR]at w3
   rcases hbl with hbl|⟨⟨arr',el',q1,q2,q3,_⟩,_⟩
   ·subst hbl;cases w1
   ·exact⟨by omega,arr',el',_,[],q1,q2,.nil,rfl,Nat.zero_le _,fun i v hi=>by simp at hi⟩
  |arg cs'=>
   have w3:=Nat.le_of_ble_eq_true (show Nat.ble off (lenV cs' 0)=true from hw)
   rw[zAR]at w3
   obtain⟨arr',el',fr',q1,q2,q3,_⟩:=hbl
   exact⟨by omega,arr',el',_,[],q1,q2,.nil,rfl,Nat.zero_le _,fun i v hi=>by simp at hi⟩
  |_=>cases hw
 |succ n=>
 have hr:yS none (rd off (n+1)) (H.get b)=some cells:=hr
 obtain⟨cs,e,st,sh,arr,el,fr,h1,h2,h3,h4,us,h5,h6⟩:=h.cells hb hr
 obtain⟨h7,h8,h9⟩:=LR.take (n+1) (h5.drop off) h1
 have hlu:=LR.len h5
 rw[List.length_drop]at h7
 have hoff:off≤kc.m:=by omega
 refine⟨hoff,arr,el,fr,_,h2,h3,h8,?_,?_,?_⟩
 ·rw[List.length_take,List.length_drop];omega
 ·omega
 ·intro i v hi
  rw[List.getElem?_take]at hi
  split at hi
  ·rw[List.getElem?_drop]at hi
   have:=h6 _ _ hi
   rwa [show kc.o+(off+i)=kc.o+off+i by omega]at this
  ·cases hi
theorem zEy {f : V → MvK} (ih : ∀ {v : V} {vv : Value} {φG : Phi} {G : CH} {os : List (Id × Nat)} {v' : V} {G' : CH} {os' : List (Id × Nat)}, VR φ v vv → InI P φ w φG G os → f v G os = .ok v' G' os' →
      ∃φG',InI P φ w φG' G' os'∧φG.le φG'∧VR φG' v' vv):
  ∀{vs:List Value} {l:V} {φG:Phi} {G:CH} {os:List (Id×Nat)} {l':V} {G':CH} {os':List (Id×Nat)},LR φ l vs→InI P φ w φG G os→yn f l G os=.ok l' G' os'→
   ∃φG',InI P φ w φG' G' os'∧φG.le φG'∧LR φG' l' vs:=by
 intro vs
 induction vs with
 |nil=>
  intro l φG G os l' G' os' hl hI hr
  cases hl
  cases(show Mv.ok .nil G os=.ok l' G' os' from hr)
  exact⟨φG,hI,Phi.le_refl _,.nil⟩
 |cons x vs ihl=>
  intro l φG G os l' G' os' hl hI hr
  cases hl with
  |cons y l _ _ h1 h2=>
   obtain⟨v₁,G₁,o₁,g1,g2⟩:=zAw (show wt (f y G os) (fun x H o=>wt (yn f l H o) (fun l H o=>.ok (.cons x l) H o))=.ok l' G' os' from hr)
   obtain⟨φ₁,i1,i2,i3⟩:=ih h1 hI g1
   obtain⟨l₂,G₂,o₂,g3,g4⟩:=zAw g2
   cases g4
   obtain⟨φ₂,j1,j2,j3⟩:=ihl h2 i1 g3
   exact⟨φ₂,j1,Phi.le_trans i2 j2,.cons _ _ _ _ (i3.mono j2) j3⟩
theorem in_rel (h : Rel P φ H w) : ∀ (k : Nat) {v : V} {vv : Value} {φG : Phi} {G : CH} {os : List (Id × Nat)} {v' : V} {G' : CH} {os' : List (Id × Nat)}, VR φ v vv → InI P φ w φG G os → inV H k v G os = .ok v' G' os' →
      ∃φG',InI P φ w φG' G' os'∧φG.le φG'∧VR φG' v' vv:=by
 intro k
 induction k with
 |zero=>intro v vv φG G os v' G' os' _ _ hr;cases(show Mv.no=.ok v' G' os' from hr)
 |succ k ih=>
  intro v vv φG G os v' G' os' hv hI hr
  cases hv with
  |bool b=>
   cases b<;>(cases hr;exact⟨φG,hI,Phi.le_refl _,.bool _⟩)
  |int kk n=>
   have hr:zCk (fun n=>zBd (.int kk n)) n G os=.ok v' G' os':=hr
   rw[zAy]at hr
   cases hr;exact⟨φG,hI,Phi.le_refl _,.int _ _⟩
  |str s=>cases hr;exact⟨φG,hI,Phi.le_refl _,.str _⟩
  |nils=>cases hr;exact⟨φG,hI,Phi.le_refl _,.nils⟩
  |nilf=>cases hr;exact⟨φG,hI,Phi.le_refl _,.nilf⟩
  |func f a b A B hA hB=>
   cases a<;>first|(cases hr;done)|skip
   cases b<;>first|(cases hr;done)|skip
   cases hr
   have e1:A= #[]:=by apply Array.ext';simpa using LR.inv_nil hA
   have e2:B= #[]:=by apply Array.ext';simpa using LR.inv_nil hB
   subst e1;subst e2
   exact⟨φG,hI,Phi.le_refl _,.func f _ _ _ _ .nil .nil⟩
  |agg l cs hl=>
   obtain⟨l₁,G₁,o₁,g1,g2⟩:=zAw (show wt (yn (inV H k) l G os) (fun l H o=>.ok (.agg l) H o)=.ok v' G' os' from hr)
   cases g2
   obtain⟨φ₁,i1,i2,i3⟩:=zEy (fun a b c=>ih a b c) hl hI g1
   exact⟨φ₁,i1,i2,.agg _ _ i3⟩
  |slice b off len cc sz cap kc hk hcap=>
   have hbw:=(h.wf b kc hk).1
   have hr:zAS H (inV H k) b off len cc sz G os=.ok v' G' os':=by
    cases b with
    |over=>exact hbw.elim
    |mk _ _ _ _ _ _=>exact hr
   unfold zAS at hr
   obtain⟨hw,hr1⟩:=zH hr Mv.ok_ne
   obtain⟨cells,hc,hr2⟩:=zP hr1 Mv.ok_ne
   obtain⟨hoff,arr,el,fr,vs,g1,g2,g3,g4,g5,g6⟩:=within_ok h hk hw hc
   obtain⟨l₁,G₁,o₁,g7,g8⟩:=zAw hr2
   obtain⟨φ₁,i1,i2,i3⟩:=zEy (fun a b c=>ih a b c) g3 hI g7
   obtain⟨G₂,e1,e2,e3,e4,e5⟩:=wK g8 Mv.ok_ne i1.rel.nok
   unfold zBM at e1
   rw[zAU,zAU,zAU]at e1
   cases e1
   have hlen:vs.length≤kc.m - off:=by rw[g4];exact g5
   refine⟨_,in_adopt h i1 hk hoff i3 hlen g1 g2 g6 e2 e3 e4 e5,Phi.le_trans i2 (Phi.le_with _ (i1.rel.none_at_n e2)),?_⟩
   obtain⟨c1,c2,c3⟩:=hcap
   have hco:CapOk (zEV kc off) 0 len (cond (capE cc) cc (capA len)) sz cap:=by
    cases he:capE cc with
    |true=>exact⟨c1,fun _=>c2 he,fun hf=>(by rw[show capE (cond true cc (capA len))=capE cc from rfl,he]at hf;cases hf)⟩
    |false=>
     obtain⟨q1,q2⟩:=c3 he
     have e7:capN (capA len)=len:=by
      show(2*len) / 2=len;omega
     have e8:capE (capA len)=false:=by
      show Nat.beq ((2*len) % 2) 1=false
      rw[Nat.mul_mod_right];rfl
     exact⟨by show len≤capN (capA len);rw[e7];exact Nat.le_refl _,fun hf=>(by rw[show capE (cond false cc (capA len))=capE (capA len)from rfl,e8]at hf;cases hf),
      fun _=>⟨by show capN (capA len)≤cap;rw[e7];omega,by show 0+cap*sz≤kc.m - off;omega⟩⟩
   exact .slice G₁.n 0 len _ sz cap (zEV kc off) (Phi.with_self φ₁ G₁.n _) hco
  |empty sz a=>cases hr;exact⟨φG,hI,Phi.le_refl _,.empty sz a⟩
  |loose sz a c=>cases hr;exact⟨φG,hI,Phi.le_refl _,.loose sz a c⟩
  |_=>cases hr
end Vam
namespace Vam
open Go
variable {P:Program}{φ:Phi}{H H':CH}{w:World}{v:V}{E:Ev}
theorem ww{r:Bk}{k:V→CH→List (Nat×Id)→Bk}{v:V}{G:CH}{o:List (Nat×Id)}(h:ye r k=.ok v G o):∃v₁ G₁ o₁,r=.ok v₁ G₁ o₁∧k v₁ G₁ o₁=.ok v G o:=by
 cases r with
 |no=>cases h
 |ok v₁ G₁ o₁=>exact⟨v₁,G₁,o₁,rfl,h⟩
theorem Bk.ok_ne{v:V}{G:CH}{o:List (Nat×Id)}:Bk.ok v G o≠Bk.no:=by intro h;cases h
theorem zFF(b:Nat)(p:Nat×Id)(m:List (Nat×Id)):zFg b (p::m)=cond (Nat.beq p.1 b) (some p.2) (zFg b m):=rfl
structure OutE(P:Program)(φ:Phi)(H:CH)(w:World)(φG:Phi)(G:CH)(os:List (Id×Nat))(φ':Phi)(G':CH)(w':World):Prop where
 rel:Rel P φ H w
 inn:InI P φ w φG G os
 back:Rel P φ' G' w'
 ext:Ext φG G w φ' G' w'
variable {φG φ':Phi}{G G':CH}{os:List (Id×Nat)}{w':World}
theorem OutE.noWr(h:OutE P φ H w φG G os φ' G' w'){b:Id}{k:Loc}(hb:φG b=some k): ¬ WrAt G b:=by
 rintro⟨_,x,hx,hw⟩
 obtain⟨⟨cs,hcs⟩,_⟩:=h.inn.dom b k hb
 rw[hcs]at hx;cases hx;exact hw
theorem OutE.same(h:OutE P φ H w φG G os φ' G' w'){r:Nat}(hr:r<w.heap.size):w'.heap[r]? =w.heap[r]? :=
 h.ext.frame r hr (fun b k hb _=>h.noWr hb)
theorem OutE.start(h:OutE P φ H w φG G os φ' G' w'):Rel P φ H w'∧Ext φ H w φ H w':=by
 refine h.rel.and ⟨h.rel.nok,fun b k hb=>?_,fun b k hb=>?_,h.rel.sep⟩ ?_
 ·obtain⟨h1,h2,h3⟩:=h.rel.wf b k hb
  exact⟨h1,h2,Nat.lt_of_lt_of_le h3 h.ext.size⟩
 ·obtain⟨x,h1,h2⟩:=h.rel.blk b k hb
  exact⟨x,h1,by rw[h.same (h.rel.wf b k hb).2.2];exact h2⟩
 ·refine⟨Phi.le_refl φ,rfl,?_,fun _ h=>h,?_,fun r hr _=>h.same hr,fun _ _ _ h=>h,fun _ _ _ _=>rfl,h.ext.size,h.ext.os,h.ext.tape,h.ext.output,h.ext.fro,fun _ _ _ h=>h⟩
  ·intro c l h1 h2;rw[h2]at h1;cases h1
  ·intro c l h1 h2;rw[h2]at h1;cases h1
theorem OutE.fresh(h:OutE P φ H w φG G os φ' G' w'){b:Id}{k:Loc}(hb:φ' b=some k)(hn:nthO os b.num=none):w.heap.size≤k.r:=by
 cases hg:φG b with
 |none=>
  rcases h.ext.newLoc b k hb hg with h1|⟨c,l,h1,_,h3⟩
  ·exact h1
  ·exact absurd h3 (h.noWr h1)
 |some l=>
  obtain⟨_,c,off,kc,h1,_⟩:=h.inn.dom b l hg
  rw[zFy,h1]at hn;cases hn
theorem OutE.arg(h:OutE P φ H w φG G os φ' G' w'){b:Id}{k:Loc}(hb:φ' b=some k){c:Id}{off:Nat}(hn:nthO os b.num=some (c,off)):∃kc,φ c=some kc∧k=zEV kc off∧off≤kc.m:=by
 rw[zFy]at hn
 obtain⟨h3,_⟩:=List.getElem?_eq_some_iff.1 hn
 obtain⟨b',k',h4,h5⟩:=h.inn.all b.num h3
 have e:b'=b:=Id.wf_inj (h.inn.rel.wf b' k' h5).1 (h.back.wf b k hb).1 h4
 subst e
 have:=h.ext.le b' k' h5
 rw[hb]at this;cases this
 obtain⟨_,c',off',kc,h6,h7⟩:=h.inn.dom b' k h5
 rw[hn]at h6;cases h6
 exact⟨kc,h7⟩
structure OutI(P:Program)(φ:Phi)(H:CH)(w:World)(φ':Phi)(G':CH)(w':World)(ψ:Phi)(K:CH)(m:List (Nat×Id)):Prop where
 rel:Rel P ψ K w'
 ext:Ext φ H w ψ K w'
 mem:∀n id,zFg n m=some id→∃b k,b.num=n∧φ' b=some k∧ψ id=some k
 new:∀id k,ψ id=some k→φ id=none→∃b cs e sh,φ' b=some k∧G'.get b=some (.cells cs e 0 sh)∧∃i,zFg b.num m=some i
theorem out_adopt(h:OutE P φ H w φG G os φ' G' w'){ψ:Phi}{K K':CH}{m:List (Nat×Id)}(hI:OutI P φ H w φ' G' w' ψ K m){b:Id}{k:Loc}(hb:φ' b=some k)(hn:nthO os b.num=none)
  {cs cs':V} {e:TypeId} {sh:List Id} (hg:G'.get b=some (.cells cs e 0 sh)) (hm:zFg b.num m=none) {us:List Value} (hl:LR ψ cs' us) {arr:Array Value} {el:TypeId}
  (q1:w'.heap[k.r]? =some (.cells arr el (0,0))) (q2:k.o+k.m≤arr.size) (q3:us.length≤k.m) (q5:∀i v,us[i]? =some v→arr[k.o+i]? =some v) (hw:K.n.wf)
  (e1:K'.n=K.n.next) (e2:K'.fz=K.fz) (e3:∀j:Id,j.wf→K'.get j=if j=K.n then some (.cells cs' e 0 [])else K.get j):
  OutI P φ H w φ' G' w' (ψ.with K.n k) K' ((b.num,K.n)::m):=by
 have hfresh:=h.fresh hb hn
 have hnone:=hI.rel.none_at_n hw
 have hle:=Phi.le_with k hnone
 refine⟨?_,?_,?_,?_⟩
 ·refine Rel.adopt hI.rel hw (h.back.wf b k hb).2.2 e1 e3 ?_ ?_ (fun _ g cs hg he=>by have:=(h.rel.gl g cs hg).1;omega)
  ·exact .inr ⟨⟨arr,el,q1,q2,by rw[LR.len hl];exact q3,us,hl.mono hle,q5⟩,by simp⟩
  ·intro c l y hc hlr hy
   exfalso
   cases hc0:φ c with
   |some l'=>
    have:=hI.ext.le c l' hc0
    rw[hc]at this;cases this
    have:=(h.rel.wf c l hc0).2.2
    omega
   |none=>
    obtain⟨b₂,cs₂,e₂,sh₂,h1,h2,i,h3⟩:=hI.new c l hc hc0
    have hne:b≠b₂:=by rintro rfl;rw[hm]at h3;cases h3
    rcases h.back.sep b b₂ k l _ _ hb h1 hne hlr.symm hg h2 with hd|hd|⟨hd,_⟩|⟨_,_,_,_,_,_,_,_,hd,_⟩|⟨_,_,_,_,_,_,_,_,hd,_⟩
    ·cases hd
    ·cases hd
    ·exact hd rfl
    ·cases hd
    ·cases hd
 ·refine⟨Phi.le_trans hI.ext.le hle,e2.trans hI.ext.fz,?_,?_,?_,hI.ext.frame,?_,?_,hI.ext.size,hI.ext.os,hI.ext.tape,hI.ext.output,hI.ext.fro,fun c hcb hcw hd=>by
   obtain⟨cs2,e2',sh2,hd⟩:=hI.ext.dead c hcb hcw hd
   exact⟨cs2,e2',sh2,by rw[e3 c hcw,if_neg (by rintro rfl;exact zU hw (hI.ext.before _ hcb))];exact hd⟩⟩
  ·intro c l hc hc0 hbf
   by_cases ec:c=K.n
   ·subst ec;exact zU hw (hI.ext.before _ hbf)
   ·rw[Phi.with_ne _ ec]at hc;exact hI.ext.newId c l hc hc0 hbf
  ·intro c hc;rw[e1];exact Before.next hw (hI.ext.before c hc)
  ·intro c l hc hc0
   by_cases ec:c=K.n
   ·subst ec;rw[Phi.with_self]at hc;cases hc;exact .inl hfresh
   ·rw[Phi.with_ne _ ec]at hc;exact hI.ext.newLoc c l hc hc0
  ·rintro c hcb hcw hnw ⟨h1,y,h2,h3⟩
   have hne:c≠K.n:=by rintro rfl;exact zU hw (hI.ext.before _ hcb)
   rw[e3 c hcw,if_neg hne]at h2
   exact hI.ext.ro c hcb hcw hnw ⟨by rw[←e2];exact h1,y,h2,h3⟩
  ·intro c hcb hcw hf
   have hne:c≠K.n:=by rintro rfl;exact zU hw (hI.ext.before _ hcb)
   rw[e3 c hcw,if_neg hne];exact hI.ext.keep c hcb hcw hf
 ·intro n id hf
  rw[zFF]at hf
  cases hq:Nat.beq b.num n with
  |true=>
   rw[show(b.num,K.n).1=b.num from rfl,hq]at hf
   cases(show some K.n=some id from hf)
   exact⟨b,k,zl hq,hb,Phi.with_self ψ K.n k⟩
  |false=>
   rw[show(b.num,K.n).1=b.num from rfl,hq]at hf
   obtain⟨b',k',h1,h2,h3⟩:=hI.mem n id hf
   exact⟨b',k',h1,h2,hle _ _ h3⟩
 ·intro id l hid hid0
  by_cases ec:id=K.n
  ·subst ec;rw[Phi.with_self]at hid;cases hid
   refine⟨b,cs,e,sh,hb,hg,K.n,?_⟩
   rw[zFF,show(b.num,K.n).1=b.num from rfl,show Nat.beq b.num b.num=true from Nat.beq_refl _];rfl
  ·rw[Phi.with_ne _ ec]at hid
   obtain⟨b',cs₂,e₂,sh₂,h1,h2,i,h3⟩:=hI.new id l hid hid0
   refine⟨b',cs₂,e₂,sh₂,h1,h2,?_⟩
   rw[zFF]
   cases Nat.beq (b.num,K.n).1 b'.num with
   |true=>exact⟨_,rfl⟩
   |false=>exact⟨i,h3⟩
def MvBack(P:Program)(φ:Phi)(H:CH)(w:World)(φ':Phi)(G':CH)(w':World)(f:V→BkK):Prop:=∀{v:V} {vv:Value} {ψ:Phi} {K:CH} {m:List (Nat×Id)} {v':V} {K':CH} {m':List (Nat×Id)},
 VR φ' v vv→OutI P φ H w φ' G' w' ψ K m→f v K m=.ok v' K' m'→∃ψ',OutI P φ H w φ' G' w' ψ' K' m'∧ψ.le ψ'∧VR ψ' v' vv
theorem zDq{f:V→BkK}(ih:MvBack P φ H w φ' G' w' f):∀{vs:List Value} {l:V} {ψ:Phi} {K:CH} {m:List (Nat×Id)} {l':V} {K':CH} {m':List (Nat×Id)},LR φ' l vs→
  OutI P φ H w φ' G' w' ψ K m→yR f l K m=.ok l' K' m'→∃ψ',OutI P φ H w φ' G' w' ψ' K' m'∧ψ.le ψ'∧LR ψ' l' vs:=by
 intro vs
 induction vs with
 |nil=>
  intro l ψ K m l' K' m' hl hI hr
  cases hl
  cases(show Bk.ok .nil K m=.ok l' K' m' from hr)
  exact⟨ψ,hI,Phi.le_refl _,.nil⟩
 |cons x vs ihl=>
  intro l ψ K m l' K' m' hl hI hr
  cases hl with
  |cons y l _ _ h1 h2=>
   obtain⟨v₁,K₁,m₁,g1,g2⟩:=ww (show ye (f y K m) (fun x H m=>ye (yR f l H m) (fun l H m=>.ok (.cons x l) H m))=.ok l' K' m' from hr)
   obtain⟨ψ₁,i1,i2,i3⟩:=ih h1 hI g1
   obtain⟨l₂,K₂,m₂,g3,g4⟩:=ww g2
   cases g4
   obtain⟨ψ₂,j1,j2,j3⟩:=ihl h2 i1 g3
   exact⟨ψ₂,j1,Phi.le_trans i2 j2,.cons _ _ _ _ (i3.mono j2) j3⟩
theorem out_slice(h:OutE P φ H w φG G os φ' G' w'){f:V→BkK}(ih:MvBack P φ H w φ' G' w' f){b:Id}{off len cc sz cap:Nat}{k:Loc}(hk:φ' b=some k)(hcap:CapOk k off len cc sz cap)
  {ψ:Phi} {K:CH} {m:List (Nat×Id)} {v':V} {K':CH} {m':List (Nat×Id)} (hI:OutI P φ H w φ' G' w' ψ K m) (hr:zCz G' os f b off len cc sz K m=.ok v' K' m'):
  ∃ψ',OutI P φ H w φ' G' w' ψ' K' m'∧ψ.le ψ'∧VR ψ' v' (.slice (some ⟨k.r,k.o+off,none⟩) len cap):=by
 unfold zCz at hr
 cases hn:nthO os b.num with
 |some bo=>
  rw[hn]at hr
  obtain⟨c,o⟩:=bo
  cases(show Bk.ok (.slice c (o+off) len cc sz) K m=.ok v' K' m' from hr)
  obtain⟨kc,h1,rfl,h3⟩:=h.arg hk hn
  refine⟨ψ,hI,Phi.le_refl _,?_⟩
  have e:((zEV kc o).o+off)=kc.o+(o+off):=by show kc.o+o+off=_;omega
  rw[e]
  obtain⟨c1,c2,c3⟩:=hcap
  refine .slice c (o+off) len cc sz cap kc (hI.ext.le _ _ h1) ⟨c1,c2,fun he=>?_⟩
  obtain⟨d1,d2⟩:=c3 he
  have d2:off+cap*sz≤kc.m - o:=d2
  exact⟨d1,by omega⟩
 |none=>
  rw[hn]at hr
  have hr:yS zAJ (zCg f b off len cc sz) (G'.get b) K m=.ok v' K' m':=hr
  have hcase:(∃cs e st sh,G'.get b=some (.cells cs e st sh)∧zCg f b off len cc sz cs e st sh K m=.ok v' K' m')∨(∃cs,zCg f b off len cc sz cs 0 1 [] K m=.ok v' K' m'):=by
   cases hg:G'.get b with
   |none=>rw[hg]at hr;cases hr
   |some x=>
    rw[hg]at hr
    cases x with
    |cells cs e st sh=>
     have hr:(cond (Nat.beq st 2) zAJ (zCg f b off len cc sz cs e st sh)) K m=.ok v' K' m':=hr
     cases hb:Nat.beq st 2 with
     |true=>rw[hb]at hr;cases hr
     |false=>rw[hb]at hr;exact .inl ⟨cs,e,st,sh,rfl,hr⟩
    |arg cs=>exact .inr ⟨cs,hr⟩
    |_=>cases hr
  have zEb:∀id,zFg b.num m=some id→VR ψ (.slice id off len cc sz) (.slice (some ⟨k.r,k.o+off,none⟩) len cap):=by
   intro id hid
   obtain⟨b₂,k₂,h1,h2,h3⟩:=hI.mem _ _ hid
   have e:b₂=b:=Id.wf_inj (h.back.wf b₂ k₂ h2).1 (h.back.wf b k hk).1 h1
   subst e
   rw[hk]at h2;cases h2
   exact .slice id off len cc sz cap k h3 hcap
  cases hm:zFg b.num m with
  |some id=>
   have hv:Bk.ok (.slice id off len cc sz) K m=.ok v' K' m':=by
    rcases hcase with ⟨cs,e,st,sh,_,hr⟩|⟨cs,hr⟩<;>(unfold zCg at hr;rw[hm]at hr;exact hr)
   cases hv
   exact⟨ψ,hI,Phi.le_refl _,zEb id hm⟩
  |none=>
   rcases hcase with ⟨cs,e,st,sh,hg,hr⟩|⟨cs,hr⟩
   ·unfold zCg at hr
    rw[hm]at hr
    obtain⟨h0,hr1⟩:=zH (show cond (Nat.beq st 0) _ Bk.no=.ok v' K' m' from hr) Bk.ok_ne
    have h0:=zl h0
    subst h0
    obtain⟨cs',K₁,m₁,g1,g2⟩:=ww hr1
    obtain⟨x,hx,hbl⟩:=h.back.blk b k hk
    rw[hg]at hx;cases hx
    rcases hbl with hbl|⟨⟨arr,el,q1,q2,q3,us,q4,q5⟩,_⟩
    ·cases hbl
    obtain⟨ψ₁,i1,i2,i3⟩:=zDq ih q4 hI g1
    cases hm1:zFg b.num m₁ with
    |some id=>rw[hm1]at g2;cases g2
    |none=>
     rw[hm1]at g2
     obtain⟨K₂,e1,e2,e3,e4,e5⟩:=wK (show alloc Bk.no K₁ (.cells cs' e 0 []) (fun n H=>.ok (.slice n off len cc sz) H ((b.num,n)::m₁))=.ok v' K' m' from g2) Bk.ok_ne i1.rel.nok
     cases e1
     refine⟨_,out_adopt h i1 hk hn hg hm1 i3 q1 q2 (by rw[←LR.len q4];exact q3) q5 e2 e3 e4 e5,Phi.le_trans i2 (Phi.le_with _ (i1.rel.none_at_n e2)),?_⟩
     exact .slice K₁.n off len cc sz cap k (Phi.with_self ψ₁ K₁.n k) hcap
   ·unfold zCg at hr
    rw[hm]at hr
    cases hr
theorem out_rel(h:OutE P φ H w φG G os φ' G' w'):∀(k:Nat),MvBack P φ H w φ' G' w' (outV G' os k):=by
 intro k
 induction k with
 |zero=>intro v vv ψ K m v' K' m' _ _ hr;cases(show Bk.no=.ok v' K' m' from hr)
 |succ k ih=>
  intro v vv ψ K m v' K' m' hv hI hr
  cases hv with
  |bool b=>cases hr;exact⟨ψ,hI,Phi.le_refl _,.bool _⟩
  |int kk n=>
   have hr:zCk (fun n=>yw (.int kk n)) n K m=.ok v' K' m':=hr
   rw[zAy]at hr
   cases hr;exact⟨ψ,hI,Phi.le_refl _,.int _ _⟩
  |str s=>cases hr;exact⟨ψ,hI,Phi.le_refl _,.str _⟩
  |nils=>cases hr;exact⟨ψ,hI,Phi.le_refl _,.nils⟩
  |nilf=>cases hr;exact⟨ψ,hI,Phi.le_refl _,.nilf⟩
  |func f a b A B hA hB=>
   cases a<;>first|(cases hr;done)|skip
   cases b<;>first|(cases hr;done)|skip
   cases hr
   have e1:A= #[]:=by apply Array.ext';simpa using LR.inv_nil hA
   have e2:B= #[]:=by apply Array.ext';simpa using LR.inv_nil hB
   subst e1;subst e2
   exact⟨ψ,hI,Phi.le_refl _,.func f _ _ _ _ .nil .nil⟩
  |agg l cs hl=>
   obtain⟨l₁,K₁,m₁,g1,g2⟩:=ww (show ye (yR (outV G' os k) l K m) (fun l H m=>.ok (.agg l) H m)=.ok v' K' m' from hr)
   cases g2
   obtain⟨ψ₁,i1,i2,i3⟩:=zDq ih hl hI g1
   exact⟨ψ₁,i1,i2,.agg _ _ i3⟩
  |tup l cs hl=>
   obtain⟨l₁,K₁,m₁,g1,g2⟩:=ww (show ye (yR (outV G' os k) l K m) (fun l H m=>.ok (.tup l) H m)=.ok v' K' m' from hr)
   cases g2
   obtain⟨ψ₁,i1,i2,i3⟩:=zDq ih hl hI g1
   exact⟨ψ₁,i1,i2,.tup _ _ i3⟩
  |slice b off len cc sz cap kc hk hcap=>
   have hbw:=(h.back.wf b kc hk).1
   refine out_slice h ih hk hcap hI ?_
   cases b with
   |over=>exact hbw.elim
   |mk _ _ _ _ _ _=>exact hr
  |empty sz a=>cases hr;exact⟨ψ,hI,Phi.le_refl _,.empty sz a⟩
  |loose sz a c=>cases hr;exact⟨ψ,hI,Phi.le_refl _,.loose sz a c⟩
  |_=>cases hr
structure OutJ(P:Program)(φ:Phi)(H:CH)(w:World)(φ':Phi)(G':CH)(w':World)(ψ:Phi)(K:CH)(_m:List (Nat×Id)):Prop where
 rel:Rel P ψ K w'
 ext:Ext φ H w ψ K w'
 new:∀id k,ψ id=some k→φ id=none→∃cs,K.get id=some (.arg cs)
theorem out_adoptW(h:OutE P φ H w φG G os φ' G' w'){ψ:Phi}{K K':CH}{m:List (Nat×Id)}(hI:OutJ P φ H w φ' G' w' ψ K m){b:Id}{k k0:Loc}(hb:φ' b=some k0)(hkr:k.r=k0.r)(hn:nthO os b.num=none)
  {cs':V} {us:List Value} (hl:LR ψ cs' us) {arr:Array Value} {el:TypeId} {fr:Nat×Nat}
  (q1:w'.heap[k.r]? =some (.cells arr el fr)) (q2:k.o+k.m≤arr.size) (q3:us.length≤k.m) (q5:∀i v,us[i]? =some v→arr[k.o+i]? =some v) (hw:K.n.wf)
  (e1:K'.n=K.n.next) (e2:K'.fz=K.fz) (e3:∀j:Id,j.wf→K'.get j=if j=K.n then some (.arg cs')else K.get j):
  OutJ P φ H w φ' G' w' (ψ.with K.n k) K' m:=by
 have hfresh:=h.fresh hb hn
 rw[←hkr]at hfresh
 have hnone:=hI.rel.none_at_n hw
 have hle:=Phi.le_with k hnone
 refine⟨?_,?_,?_⟩
 ·refine Rel.adopt hI.rel hw (by rw[hkr];exact(h.back.wf b k0 hb).2.2) e1 e3 ?_ ?_ (fun hx=>hx.elim)
  ·exact⟨arr,el,fr,q1,q2,by rw[LR.len hl];exact q3,us,hl.mono hle,q5⟩
  ·intro c l y hc hlr hy
   cases hc0:φ c with
   |some l'=>
    exfalso
    have:=hI.ext.le c l' hc0
    rw[hc]at this;cases this
    have:=(h.rel.wf c l hc0).2.2
    omega
   |none=>
    obtain⟨cs₂,h2⟩:=hI.new c l hc hc0
    rw[h2]at hy;cases hy
    exact⟨.inr (.inr (.inl ⟨fun h=>h.elim,fun h=>h.elim⟩)),.inr (.inr (.inl ⟨fun h=>h.elim,fun h=>h.elim⟩))⟩
 ·refine⟨Phi.le_trans hI.ext.le hle,e2.trans hI.ext.fz,?_,?_,?_,hI.ext.frame,?_,?_,hI.ext.size,hI.ext.os,hI.ext.tape,hI.ext.output,hI.ext.fro,fun c hcb hcw hd=>by
   obtain⟨cs2,e2',sh2,hd⟩:=hI.ext.dead c hcb hcw hd
   exact⟨cs2,e2',sh2,by rw[e3 c hcw,if_neg (by rintro rfl;exact zU hw (hI.ext.before _ hcb))];exact hd⟩⟩
  ·intro c l hc hc0 hbf
   by_cases ec:c=K.n
   ·subst ec;exact zU hw (hI.ext.before _ hbf)
   ·rw[Phi.with_ne _ ec]at hc;exact hI.ext.newId c l hc hc0 hbf
  ·intro c hc;rw[e1];exact Before.next hw (hI.ext.before c hc)
  ·intro c l hc hc0
   by_cases ec:c=K.n
   ·subst ec;rw[Phi.with_self]at hc;cases hc;exact .inl hfresh
   ·rw[Phi.with_ne _ ec]at hc;exact hI.ext.newLoc c l hc hc0
  ·rintro c hcb hcw hnw ⟨h1,y,h2,h3⟩
   have hne:c≠K.n:=by rintro rfl;exact zU hw (hI.ext.before _ hcb)
   rw[e3 c hcw,if_neg hne]at h2
   exact hI.ext.ro c hcb hcw hnw ⟨by rw[←e2];exact h1,y,h2,h3⟩
  ·intro c hcb hcw hf
   have hne:c≠K.n:=by rintro rfl;exact zU hw (hI.ext.before _ hcb)
   rw[e3 c hcw,if_neg hne];exact hI.ext.keep c hcb hcw hf
 ·intro id l hid hid0
  by_cases ec:id=K.n
  ·subst ec;exact⟨cs',by rw[e3 _ hw,if_pos rfl]⟩
  ·rw[Phi.with_ne _ ec]at hid
   obtain⟨cs₂,h2⟩:=hI.new id l hid hid0
   exact⟨cs₂,by rw[e3 _ (hI.rel.wf id l hid).1,if_neg ec];exact h2⟩
def MvBackW(P:Program)(φ:Phi)(H:CH)(w:World)(φ':Phi)(G':CH)(w':World)(f:V→BkK):Prop:=∀{v:V} {vv:Value} {ψ:Phi} {K:CH} {m:List (Nat×Id)} {v':V} {K':CH} {m':List (Nat×Id)},
 VR φ' v vv→OutJ P φ H w φ' G' w' ψ K m→f v K m=.ok v' K' m'→∃ψ',OutJ P φ H w φ' G' w' ψ' K' m'∧ψ.le ψ'∧VR ψ' v' vv
theorem zDA{f:V→BkK}(ih:MvBackW P φ H w φ' G' w' f):∀{vs:List Value} {l:V} {ψ:Phi} {K:CH} {m:List (Nat×Id)} {l':V} {K':CH} {m':List (Nat×Id)},LR φ' l vs→
  OutJ P φ H w φ' G' w' ψ K m→yR f l K m=.ok l' K' m'→∃ψ',OutJ P φ H w φ' G' w' ψ' K' m'∧ψ.le ψ'∧LR ψ' l' vs:=by
 intro vs
 induction vs with
 |nil=>
  intro l ψ K m l' K' m' hl hI hr
  cases hl
  cases(show Bk.ok .nil K m=.ok l' K' m' from hr)
  exact⟨ψ,hI,Phi.le_refl _,.nil⟩
 |cons x vs ihl=>
  intro l ψ K m l' K' m' hl hI hr
  cases hl with
  |cons y l _ _ h1 h2=>
   obtain⟨v₁,K₁,m₁,g1,g2⟩:=ww (show ye (f y K m) (fun x H m=>ye (yR f l H m) (fun l H m=>.ok (.cons x l) H m))=.ok l' K' m' from hr)
   obtain⟨ψ₁,i1,i2,i3⟩:=ih h1 hI g1
   obtain⟨l₂,K₂,m₂,g3,g4⟩:=ww g2
   cases g4
   obtain⟨ψ₂,j1,j2,j3⟩:=ihl h2 i1 g3
   exact⟨ψ₂,j1,Phi.le_trans i2 j2,.cons _ _ _ _ (i3.mono j2) j3⟩
theorem out_sliceW(h:OutE P φ H w φG G os φ' G' w'){f:V→BkK}(ih:MvBackW P φ H w φ' G' w' f){b:Id}{off len cc sz cap:Nat}{k:Loc}(hk:φ' b=some k)(hcap:CapOk k off len cc sz cap)
  {ψ:Phi} {K:CH} {m:List (Nat×Id)} {v':V} {K':CH} {m':List (Nat×Id)} (hI:OutJ P φ H w φ' G' w' ψ K m) (hr:wN G' os f b off len cc sz K m=.ok v' K' m'):
  ∃ψ',OutJ P φ H w φ' G' w' ψ' K' m'∧ψ.le ψ'∧VR ψ' v' (.slice (some ⟨k.r,k.o+off,none⟩) len cap):=by
 unfold wN at hr
 cases hn:nthO os b.num with
 |some bo=>
  rw[hn]at hr
  obtain⟨c,o⟩:=bo
  cases(show Bk.ok (.slice c (o+off) len cc sz) K m=.ok v' K' m' from hr)
  obtain⟨kc,h1,rfl,h3⟩:=h.arg hk hn
  refine⟨ψ,hI,Phi.le_refl _,?_⟩
  have e:((zEV kc o).o+off)=kc.o+(o+off):=by show kc.o+o+off=_;omega
  rw[e]
  obtain⟨c1,c2,c3⟩:=hcap
  refine .slice c (o+off) len cc sz cap kc (hI.ext.le _ _ h1) ⟨c1,c2,fun he=>?_⟩
  obtain⟨d1,d2⟩:=c3 he
  have d2:off+cap*sz≤kc.m - o:=d2
  exact⟨d1,by omega⟩
 |none=>
  rw[hn]at hr
  obtain⟨hw,hr1⟩:=zH (show cond (within (G'.get b) off (Nat.mul len sz)) _ Bk.no=.ok v' K' m' from hr) Bk.ok_ne
  obtain⟨cells,hc,hr2⟩:=zP hr1 Bk.ok_ne
  obtain⟨hoff,arr,el,fr,vs,g1,g2,g3,g4,g5,g6⟩:=within_ok h.back hk hw hc
  obtain⟨l₁,K₁,m₁,g7,g8⟩:=ww hr2
  obtain⟨ψ₁,i1,i2,i3⟩:=zDA ih g3 hI g7
  obtain⟨K₂,e1,e2,e3,e4,e5⟩:=wK g8 Bk.ok_ne i1.rel.nok
  cases e1
  have hlen:vs.length≤k.m - off:=by rw[g4];exact g5
  have hq2:(zEV k off).o+(zEV k off).m≤arr.size:=by show k.o+off+(k.m - off)≤arr.size;omega
  have hat:∀i v,vs[i]? =some v→arr[(zEV k off).o+i]? =some v:=fun i v hi=>g6 i v hi
  refine⟨_,out_adoptW h i1 (k:=zEV k off) hk rfl hn i3 g1 hq2 hlen hat e2 e3 e4 e5,Phi.le_trans i2 (Phi.le_with _ (i1.rel.none_at_n e2)),?_⟩
  obtain⟨c1,c2,c3⟩:=hcap
  have hco:CapOk (zEV k off) 0 len (cond (capE cc) cc (capA len)) sz cap:=by
   cases he:capE cc with
   |true=>exact⟨c1,fun _=>c2 he,fun hf=>(by rw[show capE (cond true cc (capA len))=capE cc from rfl,he]at hf;cases hf)⟩
   |false=>
    obtain⟨q1,q2⟩:=c3 he
    have e7:capN (capA len)=len:=by
     show(2*len) / 2=len;omega
    have e8:capE (capA len)=false:=by
     show Nat.beq ((2*len) % 2) 1=false
     rw[Nat.mul_mod_right];rfl
    exact⟨by show len≤capN (capA len);rw[e7];exact Nat.le_refl _,fun hf=>(by rw[show capE (cond false cc (capA len))=capE (capA len)from rfl,e8]at hf;cases hf),
     fun _=>⟨by show capN (capA len)≤cap;rw[e7];omega,by show 0+cap*sz≤k.m - off;omega⟩⟩
  exact .slice K₁.n 0 len _ sz cap (zEV k off) (Phi.with_self ψ₁ K₁.n _) hco
theorem out_relW(h:OutE P φ H w φG G os φ' G' w'):∀(k:Nat),MvBackW P φ H w φ' G' w' (outW G' os k):=by
 intro k
 induction k with
 |zero=>intro v vv ψ K m v' K' m' _ _ hr;cases(show Bk.no=.ok v' K' m' from hr)
 |succ k ih=>
  intro v vv ψ K m v' K' m' hv hI hr
  cases hv with
  |bool b=>cases hr;exact⟨ψ,hI,Phi.le_refl _,.bool _⟩
  |int kk n=>
   have hr:zCk (fun n=>yw (.int kk n)) n K m=.ok v' K' m':=hr
   rw[zAy]at hr
   cases hr;exact⟨ψ,hI,Phi.le_refl _,.int _ _⟩
  |str s=>cases hr;exact⟨ψ,hI,Phi.le_refl _,.str _⟩
  |nils=>cases hr;exact⟨ψ,hI,Phi.le_refl _,.nils⟩
  |nilf=>cases hr;exact⟨ψ,hI,Phi.le_refl _,.nilf⟩
  |func f a b A B hA hB=>
   cases a<;>first|(cases hr;done)|skip
   cases b<;>first|(cases hr;done)|skip
   cases hr
   have e1:A= #[]:=by apply Array.ext';simpa using LR.inv_nil hA
   have e2:B= #[]:=by apply Array.ext';simpa using LR.inv_nil hB
   subst e1;subst e2
   exact⟨ψ,hI,Phi.le_refl _,.func f _ _ _ _ .nil .nil⟩
  |agg l cs hl=>
   obtain⟨l₁,K₁,m₁,g1,g2⟩:=ww (show ye (yR (outW G' os k) l K m) (fun l H m=>.ok (.agg l) H m)=.ok v' K' m' from hr)
   cases g2
   obtain⟨ψ₁,i1,i2,i3⟩:=zDA ih hl hI g1
   exact⟨ψ₁,i1,i2,.agg _ _ i3⟩
  |tup l cs hl=>
   obtain⟨l₁,K₁,m₁,g1,g2⟩:=ww (show ye (yR (outW G' os k) l K m) (fun l H m=>.ok (.tup l) H m)=.ok v' K' m' from hr)
   cases g2
   obtain⟨ψ₁,i1,i2,i3⟩:=zDA ih hl hI g1
   exact⟨ψ₁,i1,i2,.tup _ _ i3⟩
  |slice b off len cc sz cap kc hk hcap=>
   have hbw:=(h.back.wf b kc hk).1
   refine out_sliceW h ih hk hcap hI ?_
   cases b with
   |over=>exact hbw.elim
   |mk _ _ _ _ _ _=>exact hr
  |empty sz a=>cases hr;exact⟨ψ,hI,Phi.le_refl _,.empty sz a⟩
  |loose sz a c=>cases hr;exact⟨ψ,hI,Phi.le_refl _,.loose sz a c⟩
  |_=>cases hr
theorem zEr(hD:zo P E)(wy:Bool):SoundPure wy P E:=by
 intro f args vs br φ H w v H' h ha hb _ hr
 unfold yc at hr
 cases hm:yn (inV H 8) args H0 []with
 |no=>rw[hm]at hr;cases hr
 |ok args' G os=>
  rw[hm]at hr
  obtain⟨φG,i1,i2,i3⟩:=zEy (fun a b c=>in_rel h 8 a b c) ha (InI.start h) hm
  cases hc:yG P E f args' G br with
  |no=>
   have hr:R.rec (motive:=fun _=>R) .no (fun v G=>zBr wy G os v H) (yG P E f args' G br)=.ok v H':=hr
   rw[hc]at hr;cases hr
  |ok u G'=>
   have hr:R.rec (motive:=fun _=>R) .no (fun v G=>zBr wy G os v H) (yG P E f args' G br)=.ok v H':=hr
   rw[hc]at hr
   obtain⟨t1,t2⟩:=zGZ hD i1.rel i3 hb hc
   refine⟨t1,t2.mono ?_⟩
   rintro e w' ⟨x,φ',rfl,b1,b2,b3⟩
   have hE:OutE P φ H w φG G os φ' G' w':=⟨h,i1,b1,b2⟩
   have hr:zBr wy G' os u H=.ok v H':=hr
   obtain⟨s1,s2⟩:=hE.start
   cases wy with
   |true=>
    have hr:bkR (outW G' os 8 u H [])=.ok v H':=hr
    cases hq:outW G' os 8 u H []with
    |no=>rw[hq]at hr;cases hr
    |ok u' K' m'=>
     rw[hq]at hr
     cases(show R.ok u' K'=.ok v H' from hr)
     obtain⟨ψ,j1,j2,j3⟩:=out_relW hE 8 b3 ⟨s1,s2,fun id k h1 h2=>(by rw[h1]at h2;cases h2)⟩ hq
     exact⟨x,ψ,rfl,j1.rel,j1.ext,j3⟩
   |false=>
    have hr:bkR (outV G' os 8 u H [])=.ok v H':=hr
    cases ho:outV G' os 8 u H []with
    |no=>rw[ho]at hr;cases hr
    |ok u' K' m'=>
     rw[ho]at hr
     cases(show R.ok u' K'=.ok v H' from hr)
     obtain⟨ψ,j1,j2,j3⟩:=out_rel hE 8 b3 ⟨s1,s2,fun n id hf=>(by cases hf),fun id k h1 h2=>(by rw[h1]at h2;cases h2)⟩ ho
     exact⟨x,ψ,rfl,j1.rel,j1.ext,j3⟩
end Vam
namespace Vam
open Go
variable {P:Program}{φ:Phi}{H H':CH}{w:World}{v:V}{E:Ev}
theorem zBP{o:Option V}(h:zt H o=.ok v H'):H'=H∧∀K,zt K o=.ok v K:=by
 obtain⟨rfl,rfl⟩:=yZ h
 exact⟨rfl,fun K=>rfl⟩
theorem zGY{H H':CH}{v:V}{b:Id}{o k:Nat}(h:zCf H b o k=.ok v H'):H'=H∧∀K,zCf K b o k=.ok v K:=by
 obtain⟨h1,h2⟩:=zH h R.ok_ne
 cases h2
 exact⟨rfl,fun K=>by unfold zCf;rw[h1];rfl⟩
theorem zGC{n:Nat}{ix:V}{f:CH→Nat→R}(hf:∀{i v H'},f H i=.ok v H'→H'=H∧∀K,f K i=.ok v K)(h:idx .no n (f H) ix=.ok v H'):H'=H∧∀K,idx .no n (f K) ix=.ok v K:=by
 unfold idx at*
 obtain⟨k,m,rfl,h1⟩:=zBL h R.ok_ne
 obtain⟨h2,h3⟩:=zH h1 R.ok_ne
 obtain⟨h4,h5⟩:=hf h3
 refine⟨h4,fun K=>?_⟩
 have:zFe R.no (fun i=>cond (Nat.ble (Nat.succ i) n) (f K i) .no) (.int k (.ofNat m))=cond (Nat.ble (Nat.succ m) n) (f K m) .no:=rfl
 first
  |(rw[this,h2];exact h5 K)
  |(show cond (Nat.ble (Nat.succ m) n) (f K m) .no=_;rw[h2];exact h5 K)
theorem zGy{tm:TT}{o:Op}(hc:zEz o=false)(hr:evOp P E tm H o=R.ok v H'):H'=H∧∀K,evOp P E tm K o=R.ok v K:=by
 cases o with
 |move x|assign x=>cases(show R.ok (zG tm x) H=R.ok v H' from hr);exact⟨rfl,fun K=>rfl⟩
 |pick c x y=>
  obtain⟨b,e,h1⟩:=zBU (show wB R.no (fun t=>R.ok (cond t (zG tm x) (zG tm y)) H) (zG tm c)=R.ok v H' from hr) R.ok_ne
  cases h1
  refine⟨rfl,fun K=>?_⟩
  show wB R.no (fun t=>R.ok (cond t (zG tm x) (zG tm y)) K) (zG tm c)=_
  rw[e];rfl
 |build t ps=>
  obtain⟨z,e1,h1⟩:=zP (show zET P t (zW tm ps.toList) H=R.ok v H' from hr) R.ok_ne
  obtain⟨pl,e2,h2⟩:=zP h1 R.ok_ne
  obtain⟨l,e3,h3⟩:=zP h2 R.ok_ne
  cases h3
  refine⟨rfl,fun K=>?_⟩
  show zET P t (zW tm ps.toList) K=_
  unfold zET;rw[e1]
  show opt R.no (fun pl=>opt R.no (fun l=>R.ok (.agg l) K) (zFH pl (zW tm ps.toList) z)) (zGb P t)=_
  rw[e2]
  show opt R.no (fun l=>R.ok (.agg l) K) (zFH pl (zW tm ps.toList) z)=_
  rw[e3];rfl
 |nilCheck x=>
  have hr:zCA (zG tm x) H=R.ok v H':=hr
  have go:∀K,evOp P E tm K (.nilCheck x)=zCA (zG tm x) K:=fun K=>rfl
  cases hx:zG tm x with
  |ptr b n=>rw[hx]at hr;cases hr;exact⟨rfl,fun K=>by rw[go,hx];rfl⟩
  |func f a b=>rw[hx]at hr;cases hr;exact⟨rfl,fun K=>by rw[go,hx];rfl⟩
  |_=>rw[hx]at hr;cases hr
 |binOp op t x y u=>exact zBP (o:=binV P t op (zG tm x) (zG tm y)) hr
 |unOp op t x=>exact zBP (o:=unV op (zG tm x)) hr
 |convert s d x=>
  obtain⟨h1,h2⟩:=zH (show zCU P s d (zG tm x) H=R.ok v H' from hr) R.ok_ne
  have go:∀K,evOp P E tm K (.convert s d x)=zCU P s d (zG tm x) K:=fun K=>rfl
  unfold zCU at go
  cases ht:tyOf P d with
  |int k=>
   rw[ht]at h2
   obtain⟨kk,n,e,h3⟩:=wh h2 R.ok_ne
   cases h3
   exact⟨rfl,fun K=>by rw[go,h1,ht,e];rfl⟩
  |string=>
   rw[ht]at h2
   obtain⟨s',e,h3⟩:=zAm h2 R.ok_ne
   cases h3
   exact⟨rfl,fun K=>by rw[go,h1,ht,e];rfl⟩
  |_=>rw[ht]at h2;cases h2
 |makeFunc fn xs ys=>
  cases fn with
  |func f=>cases(show R.ok (.func f (yY tm xs.toList) (yY tm ys.toList)) H=R.ok v H' from hr);exact⟨rfl,fun K=>rfl⟩
  |_=>cases hr
 |slice t x lo hi mx=>exact zBP (o:=zBv P t (zG tm x) (zd tm lo) (zd tm hi) (zd tm mx)) hr
 |fieldAddr t x f=>
  obtain⟨od,e1,h1⟩:=zP (show zAG (zG tm x) H (zc P t f)=R.ok v H' from hr) R.ok_ne
  obtain⟨b,n,e2,h2⟩:=wg h1 R.ok_ne
  obtain⟨h3,h4⟩:=zGY h2
  refine⟨h3,fun K=>?_⟩
  show zAG (zG tm x) K (zc P t f)=_
  rw[e1,e2];exact h4 K
 |field t x f=>
  obtain⟨od,e1,h1⟩:=zP (show zHd P (zG tm x) H (zc P t f)=R.ok v H' from hr) R.ok_ne
  obtain⟨l,e2,h2⟩:=wS h1 R.ok_ne
  obtain⟨h3,h4⟩:=zBP h2
  refine⟨h3,fun K=>?_⟩
  show zHd P (zG tm x) K (zc P t f)=_
  rw[e1,e2];exact h4 K
 |indexAddr t x ix=>
  have hr:ym P t (zG tm x) (zG tm ix) H=R.ok v H':=hr
  have go:∀K,evOp P E tm K (.indexAddr t x ix)=ym P t (zG tm x) (zG tm ix) K:=fun K=>rfl
  unfold ym at hr go
  cases ht:tyOf P t with
  |array n e=>
   rw[ht]at hr go
   obtain⟨b,off,e2,h2⟩:=wg hr R.ok_ne
   obtain⟨h3,h4⟩:=zGC (f:=fun H i=>zCf H b off (Nat.mul i (P.cellsOf e))) (fun h=>zGY h) h2
   exact⟨h3,fun K=>by rw[go,e2];exact h4 K⟩
  |slice e=>
   rw[ht]at hr go
   rcases wC hr R.ok_ne with ⟨b,off,l,c,s,e2,h2⟩|⟨_,h2⟩
   ·obtain⟨h3,h4⟩:=zGC (f:=fun H i=>R.ok (.ptr b (Nat.add off (Nat.mul i (P.cellsOf e)))) H) (fun h=>by cases h;exact⟨rfl,fun K=>rfl⟩) h2
    exact⟨h3,fun K=>by rw[go,e2];exact h4 K⟩
   ·cases h2
  |_=>rw[ht]at hr;cases hr
 |index t x ix=>
  have hr:zDf P t (zG tm x) (zG tm ix) H=R.ok v H':=hr
  have go:∀K,evOp P E tm K (.index t x ix)=zDf P t (zG tm x) (zG tm ix) K:=fun K=>rfl
  unfold zDf at hr go
  cases ht:tyOf P t with
  |array n e=>
   rw[ht]at hr go
   obtain⟨l,e2,h2⟩:=wS hr R.ok_ne
   obtain⟨h3,h4⟩:=zGC (f:=fun H i=>zt H (zBm P e l (Nat.mul i (P.cellsOf e)))) (fun h=>zBP h) h2
   exact⟨h3,fun K=>by rw[go,e2];exact h4 K⟩
  |string=>
   rw[ht]at hr go
   obtain⟨l,e2,h2⟩:=zAm hr R.ok_ne
   obtain⟨h3,h4⟩:=zGC (f:=fun H i=>opt R.no (fun b=>R.ok (.int .u8 (.ofNat b)) H) (nthO l i)) (fun {i v H'} h=>by
    obtain⟨b,e3,h5⟩:=zP h R.ok_ne
    cases h5
    exact⟨rfl,fun K=>by show opt R.no (fun b=>R.ok (.int .u8 (.ofNat b)) K) (nthO l i)=_;rw[e3];rfl⟩) h2
   exact⟨h3,fun K=>by rw[go,e2];exact h4 K⟩
  |_=>rw[ht]at hr;cases hr
 |extract t i=>
  obtain⟨l,e2,h2⟩:=onTup_ok (show zCT H i (zG tm t)=R.ok v H' from hr) R.ok_ne
  obtain⟨h3,h4⟩:=zBP h2
  refine⟨h3,fun K=>?_⟩
  show zCT K i (zG tm t)=_
  rw[e2];exact h4 K
 |_=>cases hc
end Vam
namespace Vam
open Go
variable {P:Program}{φ:Phi}{H H':CH}{w:World}{v:V}{E:Ev}
theorem rel_start(P:Program)(w:World)(hg:GInv (fun _=>none) H0 w):Rel P (fun _=>none) H0 w:=
 ⟨⟨rfl,fun b k h=>(by cases h),fun b k h=>(by cases h),fun b c l k x y h=>(by cases h)⟩,hg⟩
end Vam
