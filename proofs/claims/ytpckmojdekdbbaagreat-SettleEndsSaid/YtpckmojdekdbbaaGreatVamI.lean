import Derived.Test.YtpckmojdekdbbaaGreatVamH
set_option linter.unusedVariables false
set_option linter.unusedSimpArgs false
namespace Vam
open Go
variable {P:Program}{φ:Phi}{H H' K:CH}{w:World}{v:V}{E:Ev}
noncomputable section
end
end Vam
namespace Vam
open Go
theorem ginv_none{φ:Phi}{H:CH}{w:World}(h:∀g,gtab g=none):GInv φ H w:=fun g cs e=>by rw[h g]at e;cases e
end Vam
namespace Vam
open Go
variable {P:Program}{φ:Phi}{H H' K:CH}{w:World}{v:V}{E:Ev}
noncomputable section
def zAq(c:V)(G:CH):CH:=CH.rec (motive:=fun _=>CH) (fun n f t=>Id.rec (motive:=fun _=>CH) (fun k a b d e g=>.mk (Id.next (.mk k a b d e g)) f (Tr.put (some (.arg c)) t a b d e g)) (.mk .over f t) n) G
def mkG(bl:List V):CH:=List.rec (motive:=fun _=>CH→CH) (fun G=>G) (fun c _ ih G=>ih (zAq c G)) bl H0
def onArg{α:Type}(no:α)(f:V→α)(b:Option Blk):α:=
 Option.rec (motive:=fun _=>α) no (fun b=>Blk.rec (motive:=fun _=>α) (fun _ _ _ _=>no) f (fun _ _=>no) (fun _ _ _ _ _ _ _ _=>no) (fun _=>no) b) b
def walkG(G:CH)(n:Nat):Id→Option (List V):=Nat.rec (motive:=fun _=>Id→Option (List V)) (fun _=>some []) (fun _ ih i=>onArg none (fun c=>opt none (fun l=>some (c::l)) (ih i.next)) (G.get i)) n
def zHG(G:CH):Option (List V):=Id.rec (motive:=fun _=>Option (List V)) (fun k _ _ _ _ _=>walkG G k H0.n) none G.n
abbrev Known:=FuncId→V→List V→Option (V×CH)
def look(orc:Known)(f:FuncId)(args:V)(G:CH):Option (V×CH):=opt none (orc f args) (zHG G)
def zCM(wy:Bool)(P:Program)(E:Ev)(f:FuncId)(H:CH)(br:Nat×Code×List ResultVar)(args:V)(G:CH)(os:List (Id×Nat)):R:=R.rec (motive:=fun _=>R) .no (fun v G=>zBr wy G os v H) (yG P E f args G br)
def yg(wy:Bool)(P:Program)(orc:Known)(E:Ev)(f:FuncId)(args:V)(H:CH)(br:Nat×Code×List ResultVar):R:=
 Mv.rec (motive:=fun _=>R) .no (fun args G os=>opt (zCM wy P E f H br args G os) (fun x=>zBr false x.2 os x.1 H) (look orc f args G)) (yn (inV H 8) args H0 [])
def stepCallK(wy:Bool)(P:Program)(is:FuncId→Bool)(orc:Known)(E:Ev)(f:FuncId)(args:V)(H:CH):R:=
 opt .no (cond (pureFn P f) (cond (is f) (yg wy P orc E f args H) (yc wy P E f args H)) (yG P E f args H)) (bodyOf P f)
def stepEvK(wy:Bool)(P:Program)(is:FuncId→Bool)(orc:Known)(E:Ev):Ev:=⟨stepCode P E,stepCallK wy P is orc E⟩
def zO(wy:Bool)(P:Program)(is:FuncId→Bool)(orc:Known)(n:Nat):Ev:=Nat.rec (motive:=fun _=>Ev) ⟨fun _ _ _ _ _ _=>.no,fun _ _ _=>.no⟩ (fun _ e=>stepEvK wy P is orc e) n
abbrev runEvK(P:Program)(is:FuncId→Bool)(orc:Known)(n:Nat):Ev:=zO false P is orc n
end
def KnownOk(P:Program)(orc:Known):Prop:=∀f args bl x br,orc f args bl=some x→bodyOf P f=some br→pureFn P f=true→
 ∃E G',zo P E∧yG P E f args (mkG bl) br=.ok x.1 G'∧∀os H,zBr false G' os x.1 H=zBr false x.2 os x.1 H
theorem mkG_fold(bl:List V):∀G:CH,List.rec (motive:=fun _=>CH→CH) (fun G=>G) (fun c _ ih G=>ih (zAq c G)) bl G=bl.foldl (fun G c=>zAq c G) G:=by
 induction bl with
 |nil=>intro G;rfl
 |cons c bl ih=>intro G;exact ih (zAq c G)
theorem mkG_eq(bl:List V):mkG bl=bl.foldl (fun G c=>zAq c G) H0:=mkG_fold bl H0
theorem mkG_snoc(bl:List V)(c:V):mkG (bl++[c])=zAq c (mkG bl):=by rw[mkG_eq,mkG_eq,List.foldl_append];rfl
noncomputable def idAt(n:Nat):Id:=Nat.rec (motive:=fun _=>Id) H0.n (fun _ i=>i.next) n
theorem allocArg_eq{c:V}{G:CH}(hn:G.n.wf):(zAq c G).n=G.n.next∧∀j:Id,j.wf→(zAq c G).get j=if j=G.n then some (.arg c)else G.get j:=by
 cases G with
 |mk n f t=>
  cases n with
  |over=>exact hn.elim
  |mk k a b d e g=>
   have h:alloc (none:Option CH) (CH.mk (.mk k a b d e g) f t) (.arg c) (fun _ H=>some H)=some (zAq c (CH.mk (.mk k a b d e g) f t)):=rfl
   obtain⟨H₁,h1,h2,h3,h4,h5⟩:=wK h (by simp) (id hn)
   cases h1
   exact⟨h3,h5⟩
theorem allocArg_over{c:V}{G:CH}(h:G.n=.over):(zAq c G).n=.over:=by
 cases G with
 |mk n f t=>cases n with
  |over=>rfl
  |mk _ _ _ _ _ _=>cases h
def SpecG(bl:List V):Prop:=(mkG bl).n=.over∨((mkG bl).n.wf∧(mkG bl).n.num=bl.length∧(mkG bl).n=idAt bl.length∧
  ∀i c,bl[i]? =some c→(idAt i).wf∧(idAt i).num=i∧(mkG bl).get (idAt i)=some (.arg c))
theorem mkG_spec_snoc{bl:List V}{c:V}(ih:SpecG bl):SpecG (bl++[c]):=by
 unfold SpecG
 rw[mkG_snoc]
 rcases ih with h|⟨h1,h2,h3,h4⟩
 ·exact .inl (allocArg_over h)
 ·obtain⟨e1,e2⟩:=allocArg_eq (c:=c) h1
  rcases Id.next_wf h1 with h5|⟨h5,h6⟩
  ·exact .inl (e1.trans h5)
  ·right
   refine⟨by rw[e1];exact h5,by rw[e1,h6,h2];simp,?_,?_⟩
   ·rw[e1,h3];simp;rfl
   ·intro i x hx
    by_cases hi:i<bl.length
    ·rw[List.getElem?_append_left hi]at hx
     obtain⟨g1,g2,g3⟩:=h4 i x hx
     refine⟨g1,g2,?_⟩
     rw[e2 _ g1,if_neg,g3]
     intro he
     rw[he,h2]at g2;omega
    ·have hi':i=bl.length:=by
      have:=(List.getElem?_eq_some_iff.1 hx).1;simp at this;omega
     subst hi'
     rw[←h3]
     refine⟨h1,h2,?_⟩
     rw[e2 _ h1,if_pos rfl]
     simp at hx;rw[hx]
theorem mkG_spec(bl:List V):SpecG bl:=by
 have key:∀r:List V,SpecG r.reverse:=by
  intro r
  induction r with
  |nil=>exact .inr ⟨rfl,rfl,rfl,fun i c h=>by simp at h⟩
  |cons c r ih=>rw[List.reverse_cons];exact mkG_spec_snoc ih
 have:=key bl.reverse
 rwa [List.reverse_reverse]at this
theorem walkG_eq{G:CH}{bl:List V}(h:∀i c,bl[i]? =some c→G.get (idAt i)=some (.arg c)):∀(n k:Nat),k+n=bl.length→walkG G n (idAt k)=some (bl.drop k):=by
 intro n
 induction n with
 |zero=>intro k hk;rw[List.drop_eq_nil_of_le (by omega)];rfl
 |succ n ih=>
  intro k hk
  have hlt:k<bl.length:=by omega
  have h1:=h k bl[k] (List.getElem?_eq_getElem hlt)
  show onArg none (fun c=>opt none (fun l=>some (c::l)) (walkG G n (idAt k).next)) (G.get (idAt k))=_
  rw[h1]
  show opt none (fun l=>some (bl[k]::l)) (walkG G n (idAt (k+1)))=_
  rw[ih (k+1) (by omega),List.drop_eq_getElem_cons hlt]
  rfl
theorem argsOf_mkG{bl bl':List V}(h:zHG (mkG bl)=some bl'):bl'=bl:=by
 rcases mkG_spec bl with h1|⟨h1,h2,h3,h4⟩
 ·unfold zHG at h;rw[h1]at h;cases h
 ·have hw:=walkG_eq (G:=mkG bl) (fun i c hc=>(h4 i c hc).2.2) bl.length 0 (by omega)
  unfold zHG at h
  cases hn:(mkG bl).n with
  |over=>rw[hn]at h1;exact h1.elim
  |mk k a b d e g=>
   rw[hn]at h h2
   have h:walkG (mkG bl) k H0.n=some bl':=h
   obtain rfl:k=bl.length:=h2
   rw[show H0.n=idAt 0 from rfl,hw]at h
   cases h;simp
def InG(f:V→MvK):Prop:=∀{v:V} {bl:List V} {os:List (Id×Nat)} {v':V} {G':CH} {os':List (Id×Nat)},f v (mkG bl) os=.ok v' G' os'→∃bl',G'=mkG bl'
theorem inList_G{f:V→MvK}(ih:InG f):InG (yn f):=by
 intro l
 induction l with
 |nil=>intro bl os v' G' os' h;cases(show Mv.ok .nil (mkG bl) os=.ok v' G' os' from h);exact⟨bl,rfl⟩
 |cons x l _ ihl=>
  intro bl os v' G' os' h
  obtain⟨v₁,G₁,o₁,g1,g2⟩:=zAw (show wt (f x (mkG bl) os) (fun x H o=>wt (yn f l H o) (fun l H o=>.ok (.cons x l) H o))=.ok v' G' os' from h)
  obtain⟨bl₁,rfl⟩:=ih g1
  obtain⟨l₂,G₂,o₂,g3,g4⟩:=zAw g2
  cases g4
  exact ihl g3
 |_=>intro bl os v' G' os' h;cases(show Mv.no=.ok v' G' os' from h)
theorem inV_G(src:CH):∀k,InG (inV src k):=by
 intro k
 induction k with
 |zero=>intro v bl os v' G' os' h;cases(show Mv.no=.ok v' G' os' from h)
 |succ k ih=>
  intro v bl os v' G' os' h
  cases v with
  |bool b=>cases b<;>(cases h;exact⟨bl,rfl⟩)
  |int kk n=>
   have h:zCk (fun n=>zBd (.int kk n)) n (mkG bl) os=.ok v' G' os':=h
   rw[zAy]at h
   cases h;exact⟨bl,rfl⟩
  |str s=>cases h;exact⟨bl,rfl⟩
  |nils=>cases h;exact⟨bl,rfl⟩
  |nilf=>cases h;exact⟨bl,rfl⟩
  |func f a b=>
   cases a<;>first|(cases h;done)|skip
   cases b<;>first|(cases h;done)|skip
   cases h;exact⟨bl,rfl⟩
  |agg l=>
   obtain⟨l₁,G₁,o₁,g1,g2⟩:=zAw (show wt (yn (inV src k) l (mkG bl) os) (fun l H o=>.ok (.agg l) H o)=.ok v' G' os' from h)
   cases g2
   exact inList_G (f:=inV src k) @ih g1
  |slice b off len cc sz=>
   have h:(b=.over∧G'=mkG bl)∨zAS src (inV src k) b off len cc sz (mkG bl) os=.ok v' G' os':=by
    cases b with
    |over=>cases h;exact .inl ⟨rfl,rfl⟩
    |mk _ _ _ _ _ _=>exact .inr h
   rcases h with ⟨_,h⟩|h
   ·exact⟨bl,h⟩
   unfold zAS at h
   obtain⟨_,h1⟩:=zH h Mv.ok_ne
   obtain⟨cells,_,h2⟩:=zP h1 Mv.ok_ne
   obtain⟨l₁,G₁,o₁,g1,g2⟩:=zAw h2
   obtain⟨bl₁,rfl⟩:=inList_G (f:=inV src k) @ih g1
   refine⟨bl₁++[l₁],?_⟩
   rw[mkG_snoc]
   generalize mkG bl₁=G at g2
   cases G with
   |mk n f t=>
    cases n with
    |over=>cases g2
    |mk m a b' c d e=>
     have g2:zBM b off len cc sz o₁ (.mk m a b' c d e) (CH.mk (Id.next (.mk m a b' c d e)) f (Tr.put (some (.arg l₁)) t a b' c d e))=.ok v' G' os':=g2
     unfold zBM at g2
     rw[zAU,zAU,zAU]at g2
     cases g2;rfl
  |_=>cases h
theorem look_ok{orc:Known}(ho:KnownOk P orc){f:FuncId}{args:V}{br:Nat×Code×List ResultVar}(hb:bodyOf P f=some br)(hp:pureFn P f=true){args':V}{G:CH}{os:List (Id×Nat)}
  {x:V×CH} (hm:yn (inV H 8) args H0 []=.ok args' G os) (hl:look orc f args' G=some x):∃E,zo P E∧yc false P E f args H br=zBr false x.2 os x.1 H:=by
 obtain⟨bl,h1,h2⟩:=zP (no:=none) (show opt none (orc f args') (zHG G)=some x from hl) (by simp)
 obtain⟨bl',rfl⟩:=inList_G (f:=inV H 8) (@inV_G H 8) (bl:=[]) hm
 obtain rfl:=argsOf_mkG h1
 obtain⟨E,G',h4,h5,h6⟩:=ho f args' _ x br h2 hb hp
 refine⟨E,h4,?_⟩
 unfold yc
 rw[hm]
 show R.rec (motive:=fun _=>R) .no (fun v G=>zBr false G os v H) (yG P E f args' (mkG _) br)=_
 rw[h5]
 exact h6 os H
theorem zCy(wy:Bool)(orc:Known)(E:Ev)(f:FuncId)(args:V)(H:CH)(br:Nat×Code×List ResultVar){args':V}{G:CH}{os:List (Id×Nat)}(hm:yn (inV H 8) args H0 []=.ok args' G os):
  yg wy P orc E f args H br=opt (zCM wy P E f H br args' G os) (fun x=>zBr false x.2 os x.1 H) (look orc f args' G):=by
 unfold yg;rw[hm]
theorem zDo(wy:Bool)(E:Ev)(f:FuncId)(args:V)(H:CH)(br:Nat×Code×List ResultVar){args':V}{G:CH}{os:List (Id×Nat)}(hm:yn (inV H 8) args H0 []=.ok args' G os):
  yc wy P E f args H br=zCM wy P E f H br args' G os:=by
 unfold yc;rw[hm];rfl
theorem cong_back{G':CH}{os:List (Id×Nat)}{u:V}{J:CH}(hr1:zBr false G' os u H=.ok v J)(hf:zAE v=true):J=H∧zBr false G' os u K=.ok v K:=by
 have hr1:bkR (outV G' os 8 u H [])=.ok v J:=hr1
 show J=H∧bkR (outV G' os 8 u K [])=_
 cases hox:outV G' os 8 u H []with
 |no=>rw[hox]at hr1;cases hr1
 |ok u' K' m'=>
  rw[hox]at hr1
  cases hr1
  obtain⟨q1,_,q2⟩:=out_flat G' os 8 hox hf
  exact⟨q1,by rw[q2 K []];rfl⟩
theorem cong_pure{wy:Bool}{f:FuncId}{args:V}{vs:List Value}{br:Nat×Code×List ResultVar}{J:CH}(h:Rel P φ H w)(hl:LR φ args vs)(ha:Agree φ H K)(hr:yc wy P E f args H br=.ok v J)(hf:zAE v=true):J=H∧yc wy P E f args K br=.ok v K:=by
 unfold yc at hr ⊢
 rw[zBe (inV_agree h ha 8) hl]
 cases hm:yn (inV H 8) args H0 []with
 |no=>rw[hm]at hr;cases hr
 |ok args' G os=>
  rw[hm]at hr
  have hr1:R.rec (motive:=fun _=>R) .no (fun v G=>zBr wy G os v H) (yG P E f args' G br)=.ok v J:=hr
  show J=H∧R.rec (motive:=fun _=>R) .no (fun v G=>zBr wy G os v K) (yG P E f args' G br)=_
  cases hc:yG P E f args' G br with
  |no=>rw[hc]at hr1;cases hr1
  |ok u G'=>
   rw[hc]at hr1
   have hr1:zBr wy G' os u H=.ok v J:=hr1
   show J=H∧zBr wy G' os u K=_
   cases wy with
   |true=>
    have hr1:bkR (outW G' os 8 u H [])=.ok v J:=hr1
    show J=H∧bkR (outW G' os 8 u K [])=_
    cases hox:outW G' os 8 u H []with
    |no=>rw[hox]at hr1;cases hr1
    |ok u' K' m'=>
     rw[hox]at hr1
     cases hr1
     obtain⟨q1,_,q2⟩:=out_flatW G' os 8 hox hf
     exact⟨q1,by rw[q2 K []];rfl⟩
   |false=>
    have hr1:bkR (outV G' os 8 u H [])=.ok v J:=hr1
    show J=H∧bkR (outV G' os 8 u K [])=_
    cases hox:outV G' os 8 u H []with
    |no=>rw[hox]at hr1;cases hr1
    |ok u' K' m'=>
     rw[hox]at hr1
     cases hr1
     obtain⟨q1,_,q2⟩:=out_flat G' os 8 hox hf
     exact⟨q1,by rw[q2 K []];rfl⟩
theorem soundW(wy:Bool)(hmx:P.follows .mixedOrders=true){is:FuncId→Bool}{orc:Known}(ho:KnownOk P orc)(n:Nat):yi P (zO wy P is orc n)∧zo P (zO wy P is orc n):=by
 have cong:∀E,wl P (stepEvK wy P is orc E):=by
  intro E f args vs φ H K J w v hp h hl ha hr hf
  obtain⟨br,hb,hr1⟩:=zP (show opt R.no (cond (pureFn P f) (cond (is f) (yg wy P orc E f args H) (yc wy P E f args H)) (yG P E f args H)) (bodyOf P f)=.ok v J from hr) R.ok_ne
  rw[hp]at hr1
  have hr1:cond (is f) (yg wy P orc E f args H) (yc wy P E f args H) br=.ok v J:=hr1
  suffices hh:J=H∧cond (is f) (yg wy P orc E f args K) (yc wy P E f args K) br=.ok v K by
   refine⟨hh.1,?_⟩
   show opt R.no (cond (pureFn P f) (cond (is f) (yg wy P orc E f args K) (yc wy P E f args K)) (yG P E f args K)) (bodyOf P f)=_
   rw[hb,hp]
   exact hh.2
  cases hi:is f with
  |false=>rw[hi]at hr1;exact cong_pure h hl ha hr1 hf
  |true=>
   rw[hi]at hr1
   have hr1:yg wy P orc E f args H br=.ok v J:=hr1
   show J=H∧yg wy P orc E f args K br=.ok v K
   have hin:yn (inV K 8) args H0 []=yn (inV H 8) args H0 []:=by rw[zBe (inV_agree h ha 8) hl]
   cases hm:yn (inV H 8) args H0 []with
   |no=>unfold yg at hr1;rw[hm]at hr1;cases hr1
   |ok args' G os=>
    rw[zCy wy orc E f args H br hm]at hr1
    rw[zCy wy orc E f args K br (hin.trans hm)]
    cases hlk:look orc f args' G with
    |some x=>rw[hlk]at hr1;exact cong_back hr1 hf
    |none=>
     rw[hlk]at hr1
     have hr1:zCM wy P E f H br args' G os=.ok v J:=hr1
     rw[←zDo wy E f args H br hm]at hr1
     have:=cong_pure h hl ha hr1 hf
     rw[zDo wy E f args K br (hin.trans hm)]at this
     exact this
 have congn:∀n,wl P (zO wy P is orc n):=by
  intro n
  cases n with
  |zero=>intro f args vs φ H K J w v _ _ _ _ hr;cases(show R.no=.ok v J from hr)
  |succ n=>exact cong (zO wy P is orc n)
 have:∀n,yi P (zO wy P is orc n)∧zo P (zO wy P is orc n)∧zDL P (zO wy P is orc n) n:=by
  intro n
  induction n with
  |zero=>
   refine⟨?_,?_,?_⟩
   ·intro f args vs φ H w v H' _ _ hr;cases(show R.no=.ok v H' from hr)
   ·intro c tm ds ro fn H ex tm' ds' H' φ w a r _ _ _ _ _ hr;cases(show RC.no=.ok ex tm' ds' H' from hr)
   ·intro c tm ds ro fn H ex tm' ds' H' φ w a r _ _ _ _ _ hr;cases(show RC.no=.ok ex tm' ds' H' from hr)
  |succ n ih=>
   obtain⟨hC,hD,hL⟩:=ih
   have hD':zo P (stepEv P (zO wy P is orc n)):=step_code hC hD hL (draw_sound hmx hC hD (congn n)) (fun h1 h2 h3 h4 h5 h6=>range_sound hC hD h1 h2 h3 h4 h5 h6)
   have hL':zDL P (stepEv P (zO wy P is orc n)) (n+1):=step_loop hD hL
   refine⟨?_,fun h1 h2 h3 h4 h5 h6=>hD' h1 h2 h3 h4 h5 h6,fun h1 h2 h3 h4 h5 h6=>hL' h1 h2 h3 h4 h5 h6⟩
   intro f args vs φ H w v H' h ha hr
   have hr:stepCallK wy P is orc (zO wy P is orc n) f args H=.ok v H':=hr
   obtain⟨br,hb,hr1⟩:=zP (show opt R.no (cond (pureFn P f) (cond (is f) (yg wy P orc (zO wy P is orc n) f args H) (yc wy P (zO wy P is orc n) f args H)) (yG P (zO wy P is orc n) f args H)) (bodyOf P f)=.ok v H' from hr) R.ok_ne
   cases hp:pureFn P f with
   |false=>rw[hp]at hr1;exact zGZ hD h ha hb hr1
   |true=>
    rw[hp]at hr1
    have hr1:cond (is f) (yg wy P orc (zO wy P is orc n) f args H) (yc wy P (zO wy P is orc n) f args H) br=.ok v H':=hr1
    cases hi:is f with
    |false=>rw[hi]at hr1;exact zEr hD wy h ha hb hp hr1
    |true=>
     rw[hi]at hr1
     have hr1:yg wy P orc (zO wy P is orc n) f args H br=.ok v H':=hr1
     cases hm:yn (inV H 8) args H0 []with
     |no=>unfold yg at hr1;rw[hm]at hr1;cases hr1
     |ok args' G os=>
      rw[zCy wy orc _ f args H br hm]at hr1
      cases hlk:look orc f args' G with
      |some x=>
       rw[hlk]at hr1
       obtain⟨E,hE,hrun⟩:=look_ok ho hb hp hm hlk
       exact zEr hE false h ha hb hp (hrun.trans hr1)
      |none=>
       rw[hlk]at hr1
       have hr1:zCM wy P (zO wy P is orc n) f H br args' G os=.ok v H':=hr1
       rw[←zDo wy _ f args H br hm]at hr1
       exact zEr hD wy h ha hb hp hr1
 exact⟨(this n).1,(this n).2.1⟩
theorem soundK(hmx:P.follows .mixedOrders=true){is:FuncId→Bool}{orc:Known}(ho:KnownOk P orc)(n:Nat):yi P (runEvK P is orc n)∧zo P (runEvK P is orc n):=soundW false hmx ho n
end Vam
namespace Vam
open Go
variable {P:Program}
noncomputable section
def dEq(a b:D):Bool:=Nat.beq a.num b.num
def eqId(x y:Id):Bool:=Id.rec (motive:=fun _=>Bool) (fun n a b c d e=>Id.rec (motive:=fun _=>Bool) (fun n' a' b' c' d' e'=>
 cond (Nat.beq n n') (cond (dEq e e') (cond (dEq d d') (cond (dEq c c') (cond (dEq b b') (Nat.beq a a') false) false) false) false) false) false y) false x
def eqV(x:V):V→Bool:=V.rec (motive:=fun _=>V→Bool)
 (fun a=>wB false (bEq a)) (fun k n=>zDB false (fun k' m=>cond (kEq k k') (ieq n m) false)) (fun s=>zGd false (zDg s)) (fun _ _ _=>false) (isNilp false (fun b=>b))
 (fun b o l c s=>yx false (fun b' o' l' c' s'=>cond (eqId b b') (cond (Nat.beq o o') (cond (Nat.beq l l') (cond (Nat.beq c c') (Nat.beq s s') false) false) false) false) false)
 (yx false (fun _ _ _ _ _=>false) true) (fun _ _=>false) (onMap false (fun _=>false) true)
 (fun f _ _ iha ihb=>zHa false (fun g a b=>cond (Nat.beq f g) (cond (iha a) (ihb b) false) false) (fun _=>false)) (fun _ _=>false) (isNilf false (fun b=>b))
 (fun _ ih=>zCo false ih) (fun _ ih=>onTup false ih) (zu false true (fun _ _=>false)) (fun _ _ ihx ihl=>zu false false (fun y m=>cond (ihx y) (ihl m) false)) x
def eqVs(l:List V):List V→Bool:=List.rec (motive:=fun _=>List V→Bool) (fun m=>List.rec (motive:=fun _=>Bool) true (fun _ _ _=>false) m)
 (fun x _ ih m=>List.rec (motive:=fun _=>Bool) false (fun y m _=>cond (eqV x y) (ih m) false) m) l
def runIs(v:V)(r:R):Bool:=R.rec (motive:=fun _=>Bool) false (fun u _=>eqV u v) r
def runOn(P:Program)(E:Ev)(f:FuncId)(args:V)(bl:List V):R:=opt .no (yG P E f args (mkG bl)) (bodyOf P f)
end
theorem kNum_inj{a b:IntKind}(h:kNum a=kNum b):a=b:=by cases a<;>cases b<;>first|rfl|(exact absurd h (by decide))
theorem kEq_ok{a b:IntKind}(h:kEq a b=true):a=b:=kNum_inj (zl h)
theorem ieq_ok{a b:Int}(h:ieq a b=true):a=b:=by
 cases a with
 |ofNat m=>cases b with
  |ofNat n=>rw[zl (show Nat.beq m n=true from h)]
  |negSucc n=>cases h
 |negSucc m=>cases b with
  |ofNat n=>cases h
  |negSucc n=>rw[zl (show Nat.beq m n=true from h)]
theorem natsEq_ok:∀{a b:List Nat},zDg a b=true→a=b:=by
 intro a
 induction a with
 |nil=>intro b h;cases b with
  |nil=>rfl
  |cons _ _=>cases h
 |cons x a ih=>intro b h;cases b with
  |nil=>cases h
  |cons y b=>
   obtain⟨h1,h2⟩:=zH (no:=false) (show cond (Nat.beq x y) (zDg a b) false=true from h) (by simp)
   rw[zl h1,ih h2]
theorem dEq_ok{a b:D}(h:dEq a b=true):a=b:=D.num_inj (zl h)
theorem eqId_ok{x y:Id}(h:eqId x y=true):x=y:=by
 cases x with
 |over=>cases h
 |mk n a b c d e=>cases y with
  |over=>cases h
  |mk n' a' b' c' d' e'=>
   obtain⟨h1,h⟩:=zH (no:=false) (show cond (Nat.beq n n') _ false=true from h) (by simp)
   obtain⟨h2,h⟩:=zH (no:=false) h (by simp)
   obtain⟨h3,h⟩:=zH (no:=false) h (by simp)
   obtain⟨h4,h⟩:=zH (no:=false) h (by simp)
   obtain⟨h5,h6⟩:=zH (no:=false) h (by simp)
   rw[zl h1,dEq_ok h2,dEq_ok h3,dEq_ok h4,dEq_ok h5,zl h6]
theorem eqV_ok:∀{x y:V},eqV x y=true→x=y:=by
 intro x
 induction x with
 | bool a => intro y h; cases y <;> first | (cases h; done) | skip
             rename_i b;cases a<;>cases b<;>first|rfl|cases h
 | int k n => intro y h; cases y <;> first | (cases h; done) | skip
              obtain⟨h1,h2⟩:=zH (no:=false) h (by simp);rw[kEq_ok h1,ieq_ok h2]
 |str s=>intro y h;cases y<;>first|(cases h;done)|(rw[natsEq_ok h])
 |ptr b o=>intro y h;cases h
 |nilp=>intro y h;cases y<;>first|rfl|cases h
 |slice b o l c s=>
  intro y h;cases y<;>first|(cases h;done)|skip
  obtain⟨h1,h⟩:=zH (no:=false) h (by simp)
  obtain⟨h2,h⟩:=zH (no:=false) h (by simp)
  obtain⟨h3,h⟩:=zH (no:=false) h (by simp)
  obtain⟨h4,h5⟩:=zH (no:=false) h (by simp)
  rw[eqId_ok h1,zl h2,zl h3,zl h4,zl h5]
 |nils=>intro y h;cases y<;>first|rfl|cases h
 |map r=>intro y h;cases h
 |nilm=>intro y h;cases y<;>first|rfl|cases h
 |func f a b iha ihb=>
  intro y h;cases y<;>first|(cases h;done)|skip
  obtain⟨h1,h⟩:=zH (no:=false) h (by simp)
  obtain⟨h2,h3⟩:=zH (no:=false) h (by simp)
  rw[zl h1,iha h2,ihb h3]
 |yield l=>intro y h;cases h
 |nilf=>intro y h;cases y<;>first|rfl|cases h
 |agg l ih=>intro y h;cases y<;>first|(cases h;done)|(rw[ih h])
 |tup l ih=>intro y h;cases y<;>first|(cases h;done)|(rw[ih h])
 |nil=>intro y h;cases y<;>first|rfl|cases h
 |cons x l ihx ihl=>
  intro y h;cases y<;>first|(cases h;done)|skip
  obtain⟨h1,h2⟩:=zH (no:=false) h (by simp)
  rw[ihx h1,ihl h2]
theorem eqVs_ok:∀{l m:List V},eqVs l m=true→l=m:=by
 intro l
 induction l with
 |nil=>intro m h;cases m with
  |nil=>rfl
  |cons _ _=>cases h
 |cons x l ih=>intro m h;cases m with
  |nil=>cases h
  |cons y m=>
   obtain⟨h1,h2⟩:=zH (no:=false) (show cond (eqV x y) (eqVs l m) false=true from h) (by simp)
   rw[eqV_ok h1,ih h2]
theorem runIs_ok{v:V}{r:R}(h:runIs v r=true):∃G,r=.ok v G:=by
 cases r with
 |no=>cases h
 |ok u G=>exact⟨G,by rw[eqV_ok (show eqV u v=true from h)]⟩
noncomputable def noKnown:Known:=fun _ _ _=>none
noncomputable def one(g:FuncId)(A:V)(B:List V)(v:V):Known:=fun f args bl=>cond (Nat.beq f g) (cond (eqV args A) (cond (eqVs bl B) (some (v,H0)) none) none) none
def Stays(v:V):Prop:=zAE v=true∧∀G os H,bkR (outV G os 8 v H [])=.ok v H
theorem noKnown_ok:KnownOk P noKnown:=by intro f args bl x br h;cases h
theorem one_ok{g:FuncId}{A:V}{B:List V}{v:V}{E:Ev}(hE:zo P E)(hv:Stays v)(hr:runIs v (runOn P E g A B)=true):KnownOk P (one g A B v):=by
 intro f args bl u br hu hb _
 obtain⟨h1,hu⟩:=zH (no:=none) hu (by simp)
 obtain⟨h2,hu⟩:=zH (no:=none) hu (by simp)
 obtain⟨h3,hu⟩:=zH (no:=none) hu (by simp)
 cases hu
 obtain rfl:=zl h1
 obtain rfl:=eqV_ok h2
 obtain rfl:=eqVs_ok h3
 obtain⟨G,hG⟩:=runIs_ok hr
 unfold runOn at hG
 rw[hb]at hG
 exact⟨E,G,hE,hG,fun os H=>(hv.2 G os H).trans (hv.2 H0 os H).symm⟩
noncomputable section
end
end Vam
