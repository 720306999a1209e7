import Derived.Test.YtpckmojdekdbbaaGreatVamG
set_option linter.unusedVariables false
set_option linter.unusedSimpArgs false
namespace Vam
open Go
variable {P:Program}{φ:Phi}{H H' K:CH}{w:World}{v:V}{E:Ev}
theorem kill_get:∀(bs:List Id) {H H':CH},kill bs H=some H'→(∀b∈bs,b.wf)→∀j:Id,j.wf→H'.get j=H.get j∨zFY H' j:=by
 intro bs
 induction bs with
 |nil=>intro H H' h _ j _;cases(show some H=some H' from h);exact .inl rfl
 |cons b bs ih=>
  intro H H' h hw j hj
  have h:opt none (kill bs) (opt (some H) (H.set b) (yS none killS (H.get b)))=some H':=h
  cases hk:yS none killS (H.get b)with
  |none=>rw[hk]at h;exact ih h (fun c hc=>hw c (by simp[hc])) j hj
  |some x=>
   rw[hk]at h
   obtain⟨H₁,h1,h2⟩:=zP (no:=none) h (by simp)
   obtain⟨_,_,_,h3⟩:=CH.set_some (show H.set b x=some H₁ from h1) (hw b (by simp))
   have hx:∃cs e sh,x=.cells cs e 2 sh:=by
    cases hg:H.get b with
    |none=>rw[hg]at hk;cases hk
    |some y=>
     rw[hg]at hk
     cases y with
     |cells cs e st sh=>
      have hk:cond (Nat.beq st 2) none (killS cs e st sh)=some x:=hk
      cases hb:Nat.beq st 2 with
      |true=>rw[hb]at hk;cases hk
      |false=>rw[hb]at hk;cases hk;exact⟨cs,e,sh,rfl⟩
     |arg cs=>cases hk;exact⟨cs,0,[],rfl⟩
     |_=>cases hk
   rcases ih h2 (fun c hc=>hw c (by simp[hc])) j hj with h4|h4
   ·rw[h4,h3 j hj]
    by_cases hjb:j=b
    ·obtain⟨cs,e,sh,rfl⟩:=hx
     right
     exact⟨cs,e,sh,by rw[h4,h3 j hj,if_pos hjb]⟩
    ·left;rw[if_neg hjb]
   ·exact .inr h4
theorem store_get(h:Rel P φ H w){t:TypeId}{x:V}{b:Id}{off:Nat}{k:Loc}(hb:φ b=some k){J:CH}(hr:zBZ P t x H b off=some J):∀j:Id,j.wf→j≠b→J.get j=H.get j∨zFY J j:=by
 have key:∀vs,zk H b off vs=some J→∀j:Id,j.wf→j≠b→J.get j=H.get j∨zFY J j:=by
  intro vs hw j hj hne
  unfold zk at hw
  obtain⟨y,hy,hbl⟩:=h.blk b k hb
  rcases zBc hw with ⟨cs,e,st,sh,h1,h2,h3⟩|⟨cs,h1,h3⟩
  ·obtain⟨h4,h5⟩:=zH (no:=none) (show cond (Nat.beq st 0) (cond (we vs) (opt none (fun cs'=>opt none (kill sh) (H.set b (.cells cs' e 0 []))) (putV cs off vs)) none) none=some J from h3) (by simp)
   obtain⟨_,h6⟩:=zH (no:=none) h5 (by simp)
   obtain⟨cs',_,h7⟩:=zP (no:=none) h6 (by simp)
   obtain⟨H₁,h8,h9⟩:=zP (no:=none) h7 (by simp)
   obtain⟨_,_,_,h10⟩:=CH.set_some h8 (h.wf b k hb).1
   have hsh:∀s∈sh,s.wf:=by
    rw[h1]at hy;cases hy
    rcases hbl with h11|⟨_,h11⟩
    ·exact absurd h11 h2
    ·exact h11
   rcases kill_get sh h9 hsh j hj with h12|h12
   ·left;rw[h12,h10 j hj,if_neg hne]
   ·exact .inr h12
  ·cases(show(none:Option CH)=some J from h3)
 unfold zBZ at hr
 cases hs:shOf P t with
 |bad=>rw[hs]at hr;cases hr
 |one=>rw[hs]at hr;exact key _ hr
 |many n=>
  rw[hs]at hr
  obtain⟨l,_,h1⟩:=wS (no:=none) (show zCo none (fun l=>cond (Nat.beq (lenV l 0) n) (zk H b off l) none) x=some J from hr) (by simp)
  obtain⟨_,h2⟩:=zH (no:=none) h1 (by simp)
  exact key _ h2
section app
variable {n:Id}{f:Nat}{T T':Tr}
theorem get_like(hg:∀b k,φ b=some k→(CH.mk n f T').get b=(CH.mk n f T).get b){b:Id}(hb:b=.over∨∃k,φ b=some k):(CH.mk n f T').get b=(CH.mk n f T).get b:=by
 rcases hb with rfl|⟨k,hk⟩
 ·rfl
 ·exact hg b k hk
theorem read_like(hg:∀b k,φ b=some k→(CH.mk n f T').get b=(CH.mk n f T).get b){b:Id}(hb:b=.over∨∃k,φ b=some k)(off m:Nat):zX (CH.mk n f T') b off m=zX (CH.mk n f T) b off m:=by
 unfold zX
 rw[get_like hg hb]
theorem slice_in{b:Id}{off len cc sz:Nat}{sv:Value}(h:VR φ (.slice b off len cc sz) sv):b=.over∨∃k,φ b=some k:=by
 cases h with
 |slice _ _ _ _ _ cap k hk _=>exact .inr ⟨k,hk⟩
 |empty=>exact .inl rfl
 |loose=>exact .inl rfl
theorem first_like(hg:∀b k,φ b=some k→(CH.mk n f T').get b=(CH.mk n f T).get b){x:V}{xv:Value}(hx:VR φ x xv)(c m:Nat):firstCells (CH.mk n f T') c m x=firstCells (CH.mk n f T) c m x:=by
 cases x with
 |slice b off len cc sz=>exact read_like hg (slice_in hx) off (m*c)
 |_=>rfl
def zFZ(P:Program)(go:CH→R)(n:Id)(f:Nat)(T T':Tr)(v:V)(J:CH):Prop:=
 (J=.mk n f T∧go (.mk n f T')=.ok v (.mk n f T'))∨∃cs e,go (.mk n f T)=alloc .no (.mk n f T) (.cells cs e 0 []) (fun _ H=>.ok v H)∧go (.mk n f T')=alloc .no (.mk n f T') (.cells cs e 0 []) (fun _ H=>.ok v H)
theorem zGt{el:TypeId}{size need:Nat}{cs:V}{J:CH}(hn:n.wf)(h:yy (.mk n f T) el size need cs=.ok v J):v=.slice n 0 need (capA need) size∧∀K:Tr,yy (.mk n f K) el size need cs=alloc .no (.mk n f K) (.cells cs el 0 []) (fun _ H=>.ok v H):=by
 cases n with
 |over=>exact hn.elim
 |mk k a b c d e=>
  cases h
  exact⟨rfl,fun K=>rfl⟩
theorem appV_like(hn:n.wf)(hset:∀b k x,φ b=some k→(CH.mk n f T).set b x=none)(hg:∀b k,φ b=some k→(CH.mk n f T').get b=(CH.mk n f T).get b){elem:TypeId}{s x:V}{sv xv:Value}(hs:VR φ s sv)(hx:VR φ x xv){J:CH}
  (h:wp P elem (.mk n f T) s x=.ok v J):zFZ P (fun K=>wp P elem K s x) n f T T' v J:=by
 have h0:=h
 unfold wp at h
 obtain⟨m,hl,h⟩:=zP h R.ok_ne
 obtain⟨hb,h⟩:=zH h R.ok_ne
 obtain⟨s1,hc,h⟩:∃s1,P.cellsOf elem=Nat.succ s1∧opt .no (fun new=>yx .no (zDK P (.mk n f T) elem (Nat.succ s1) m new) (wJ P (.mk n f T) elem (Nat.succ s1) m new) s) (firstCells (.mk n f T) (Nat.succ s1) m x)=.ok v J:=by
  cases hc:P.cellsOf elem with
  |zero=>rw[hc]at h;cases h
  |succ s1=>rw[hc]at h;exact⟨s1,rfl,h⟩
 have hgo:∀K,wp P elem K s x=opt .no (fun new=>yx .no (zDK P K elem (Nat.succ s1) m new) (wJ P K elem (Nat.succ s1) m new) s) (firstCells K (Nat.succ s1) m x):=by
  intro K
  unfold wp
  rw[hl]
  show cond (Nat.ble (Nat.mul (Nat.add (opt 0 (fun k=>k) (lenOf s)) m) (Nat.add (P.bytesOf elem) (P.cellsOf elem))) zCV) _ _=_
  rw[hb,hc];rfl
 obtain⟨new,hf,h⟩:=zP h R.ok_ne
 have hf':firstCells (.mk n f T') (Nat.succ s1) m x=some new:=by rw[first_like hg hx];exact hf
 have hgo1:wp P elem (.mk n f T) s x=yx .no (zDK P (.mk n f T) elem (Nat.succ s1) m new) (wJ P (.mk n f T) elem (Nat.succ s1) m new) s:=by rw[hgo,hf];rfl
 have hgo2:wp P elem (.mk n f T') s x=yx .no (zDK P (.mk n f T') elem (Nat.succ s1) m new) (wJ P (.mk n f T') elem (Nat.succ s1) m new) s:=by rw[hgo,hf'];rfl
 clear hgo h0
 unfold zFZ
 simp only[hgo1,hgo2]
 clear hgo1 hgo2
 rcases wC h R.ok_ne with ⟨b,off,len,cc,sz,rfl,h⟩|⟨rfl,h⟩
 ·have hin:=slice_in hs
  have hnone:∀y,(CH.mk n f T).set b y=none:=by
   intro y
   rcases hin with rfl|⟨k,hk⟩
   ·rfl
   ·exact hset b k y hk
  obtain⟨h1,h⟩:=zH (show cond (Nat.beq sz (Nat.succ s1)) _ R.no=.ok v J from h) R.ok_ne
  show(_∧cond (Nat.beq sz (Nat.succ s1)) _ R.no=_)∨∃cs e,cond (Nat.beq sz (Nat.succ s1)) _ R.no=_∧cond (Nat.beq sz (Nat.succ s1)) _ R.no=_
  rw[h1]
  show(_∧cond (Nat.ble (Nat.add len m) (capN cc)) _ _=_)∨∃cs e,cond (Nat.ble (Nat.add len m) (capN cc)) _ _=_∧cond (Nat.ble (Nat.add len m) (capN cc)) _ _=_
  cases hble:Nat.ble (Nat.add len m) (capN cc)with
  |true=>
   rw[hble]at h
   have h:zAY (.mk n f T) (Nat.succ s1) (Nat.add len m) new b off len cc=.ok v J:=h
   left
   show J=_∧zAY (.mk n f T') (Nat.succ s1) (Nat.add len m) new b off len cc=_
   unfold zAY at h ⊢
   rcases za h R.ok_ne with ⟨rfl,h⟩|⟨y,l,rfl,h⟩
   ·cases h;exact⟨rfl,rfl⟩
   ·exfalso
    obtain⟨K,hw,_⟩:=zP h R.ok_ne
    unfold zk at hw
    rcases zEt hw (by simp)with ⟨cs,e,st,sh,_,_,hw⟩|⟨cs,_,hw⟩
    ·unfold wr at hw
     obtain⟨_,hw⟩:=zH hw (by simp)
     obtain⟨_,hw⟩:=zH hw (by simp)
     obtain⟨cs',_,hw⟩:=zP (no:=none) hw (by simp)
     rw[hnone]at hw;cases hw
    ·cases hw
  |false=>
   rw[hble]at h
   have h:yd P (.mk n f T) elem (Nat.succ s1) (Nat.add len m) new b off len cc=.ok v J:=h
   show(_∧yd P (.mk n f T') elem (Nat.succ s1) (Nat.add len m) new b off len cc=_)∨∃cs e,yd P (.mk n f T) elem (Nat.succ s1) (Nat.add len m) new b off len cc=_∧yd P (.mk n f T') elem (Nat.succ s1) (Nat.add len m) new b off len cc=_
   unfold yd at h ⊢
   obtain⟨z,hz,h⟩:=zP h R.ok_ne
   obtain⟨h2,h⟩:=zH h R.ok_ne
   obtain⟨h3,h⟩:=zH h R.ok_ne
   rw[hz]
   show(_∧cond (Nat.beq (lenV z 0) (Nat.succ s1)) _ R.no=_)∨∃cs e,cond (Nat.beq (lenV z 0) (Nat.succ s1)) _ R.no=_∧cond (Nat.beq (lenV z 0) (Nat.succ s1)) _ R.no=_
   rw[h2]
   show(_∧cond (we new) _ R.no=_)∨∃cs e,cond (we new) _ R.no=_∧cond (we new) _ R.no=_
   rw[h3]
   show(_∧cond (capE cc) _ _=_)∨∃cs e,cond (capE cc) _ _=_∧cond (capE cc) _ _=_
   cases hE:capE cc with
   |true=>
    rw[hE]at h
    obtain⟨old,ho,h⟩:=zP (show opt R.no (fun old=>yy (.mk n f T) elem (Nat.succ s1) (Nat.add len m) (appV old new)) (zX (.mk n f T) b off (Nat.mul len (Nat.succ s1)))=R.ok v J from h) R.ok_ne
    obtain⟨_,q⟩:=zGt hn h
    right
    refine⟨appV old new,elem,?_,?_⟩
    ·show opt R.no (fun old=>yy (.mk n f T) elem (Nat.succ s1) (Nat.add len m) (appV old new)) (zX (.mk n f T) b off (Nat.mul len (Nat.succ s1)))=_
     rw[ho];exact q T
    ·show opt R.no (fun old=>yy (.mk n f T') elem (Nat.succ s1) (Nat.add len m) (appV old new)) (zX (.mk n f T') b off (Nat.mul len (Nat.succ s1)))=_
     rw[read_like hg hin,ho];exact q T'
   |false=>
    exfalso
    rw[hE]at h
    rcases zEt (show yS R.no (zDb (.mk n f T) b off (Nat.mul len (Nat.succ s1)) (Nat.succ s1) (Nat.add len m) new) ((CH.mk n f T).get b)=R.ok v J from h) R.ok_ne with ⟨cs,e,st,sh,_,_,h⟩|⟨cs,_,h⟩
    ·unfold zDb at h
     obtain⟨_,h⟩:=zH h R.ok_ne
     obtain⟨_,h⟩:=zH h R.ok_ne
     rw[hnone]at h;cases h
    ·cases h
 ·have h:wJ P (.mk n f T) elem (Nat.succ s1) m new=.ok v J:=h
  show(_∧wJ P (.mk n f T') elem (Nat.succ s1) m new=_)∨∃cs e,wJ P (.mk n f T) elem (Nat.succ s1) m new=_∧wJ P (.mk n f T') elem (Nat.succ s1) m new=_
  unfold wJ at h ⊢
  cases m with
  |zero=>left;cases h;exact⟨rfl,rfl⟩
  |succ m=>
   obtain⟨z,hz,h⟩:=zP (show opt R.no (fun z=>cond (Nat.beq (lenV z 0) (Nat.succ s1)) (cond (we new) (yy (.mk n f T) elem (Nat.succ s1) (m+1) new) .no) .no) (yf P elem)=R.ok v J from h) R.ok_ne
   obtain⟨h2,h⟩:=zH h R.ok_ne
   obtain⟨h3,h⟩:=zH h R.ok_ne
   obtain⟨_,q⟩:=zGt hn h
   right
   have go:∀K:CH,natC (R.ok .nils K) (fun _=>opt .no (fun z=>cond (Nat.beq (lenV z 0) (Nat.succ s1)) (cond (we new) (yy K elem (Nat.succ s1) (m+1) new) .no) .no) (yf P elem)) (m+1)=yy K elem (Nat.succ s1) (m+1) new:=by
    intro K
    show opt R.no (fun z=>cond (Nat.beq (lenV z 0) (Nat.succ s1)) (cond (we new) (yy K elem (Nat.succ s1) (m+1) new) .no) .no) (yf P elem)=_
    rw[hz]
    show cond (Nat.beq (lenV z 0) (Nat.succ s1)) (cond (we new) (yy K elem (Nat.succ s1) (m+1) new) R.no) R.no=_
    rw[h2,h3];rfl
   exact⟨new,elem,(go _).trans (q T),(go _).trans (q T')⟩
theorem appT_like(hn:n.wf)(hset:∀b k x,φ b=some k→(CH.mk n f T).set b x=none)(hg:∀b k,φ b=some k→(CH.mk n f T').get b=(CH.mk n f T).get b){ts:List TypeId}{s x:V}{sv xv:Value}(hs:VR φ s sv)(hx:VR φ x xv){J:CH}
  (h:wd P ts (.mk n f T) s x=.ok v J):zFZ P (fun K=>wd P ts K s x) n f T T' v J:=by
 unfold wd at h
 split at h
 ·rename_i t t2
  split at h
  ·rename_i e2 elem h1 h2
   have hgo:∀K,wd P [t,t2] K s x=wp P elem K s x:=fun K=>by unfold wd;simp only[h1,h2]
   unfold zFZ;simp only[hgo];exact appV_like hn hset hg hs hx h
  ·rename_i elem h1 h2
   have hgo:∀K,wd P [t,t2] K s x=wp P elem K s x:=fun K=>by unfold wd;simp only[h1,h2]
   unfold zFZ;simp only[hgo];exact appV_like hn hset hg hs hx h
  ·rename_i k elem h1 h2
   have hgo:∀K,wd P [t,t2] K s x=appendZ P elem K s x:=fun K=>by unfold wd;simp only[h1,h2]
   unfold zFZ;simp only[hgo]
   rcases wC (show yx R.no (fun _ _ _ _ _=>R.no) (zFe R.no (fun m=>opt R.no (zCe P elem (.mk n f T) m) (yf P elem)) x) s=.ok v J from h) R.ok_ne with ⟨_,_,_,_,_,_,h3⟩|⟨rfl,h3⟩
   ·cases h3
   obtain⟨k',m,rfl,h4⟩:=zBL h3 R.ok_ne
   obtain⟨z,hz,h5⟩:=zP h4 R.ok_ne
   unfold zCe at h5
   obtain⟨e1,h5⟩:=zH h5 R.ok_ne
   obtain⟨e2,h5⟩:=zH h5 R.ok_ne
   obtain⟨e3,h5⟩:=zH h5 R.ok_ne
   obtain⟨e4,h5⟩:=zH h5 R.ok_ne
   obtain⟨_,q⟩:=zGt hn h5
   have go:∀K:CH,appendZ P elem K .nils (.int k' (.ofNat m))=yy K elem (P.cellsOf elem) m (repL z m):=by
    intro K
    show opt R.no (zCe P elem K m) (yf P elem)=_
    rw[hz]
    show zCe P elem K m z=_
    unfold zCe
    rw[e1,e2,e3,e4];rfl
   exact .inr ⟨repL z m,elem,(go _).trans (q T),(go _).trans (q T')⟩
  ·cases h
 ·cases h
theorem app_like{E:Ev}{tm:TT}{tmps:Array Value}(htm:TmR φ tm tmps){o:Oper}(hok:wF tmps.size o=true){args:Array Operand}{ts:Array TypeId}(ho:o.op=.call ⟨.builtin .append,args,ts⟩)(hn:n.wf)
  (hset:∀b k x,φ b=some k→(CH.mk n f T).set b x=none) (hg:∀b k,φ b=some k→(CH.mk n f T').get b=(CH.mk n f T).get b) {J:CH} (h:evOp P E tm (.mk n f T) o.op=.ok v J):zFZ P (fun K=>evOp P E tm K o.op) n f T T' v J:=by
 have hl:LR φ (yY tm args.toList) (args.toList.map (Act.eval ⟨tmps,[]⟩)):=zBW (a:=⟨tmps,[]⟩) htm (by
  rw[List.all_eq_true];intro x hx
  exact List.all_eq_true.1 (Bool.and_eq_true_iff.1 hok).2 x (by rw[ho];simpa[Op.operands,Call.operands]using hx))
 have hgo:∀K,evOp P E tm K o.op=zu .no .no (fun s l=>zu .no .no (fun x _=>wd P ts.toList K s x) l) (yY tm args.toList):=fun K=>by rw[ho];rfl
 rw[hgo]at h
 unfold zFZ
 simp only[hgo]
 generalize yY tm args.toList=l at hl h ⊢
 rcases za h R.ok_ne with ⟨_,h1⟩|⟨s,l',e1,h1⟩
 ·cases h1
 ·subst e1
  obtain⟨sv,vs,_,g1,g2⟩:=LR.inv_cons hl
  rcases za h1 R.ok_ne with ⟨_,h2⟩|⟨x,l'',e2,h2⟩
  ·cases h2
  ·subst e2
   obtain⟨xv,vs',_,g3,g4⟩:=LR.inv_cons g2
   exact appT_like hn hset hg g1 g3 h2
end app
inductive Swaps(tm:TT)(J:CH)(p q:Oper×Md):Prop where
 |coldL:p.2=.plain→zEz p.1.op=false→Swaps tm J p q
 |coldR:q.2=.plain→zEz q.1.op=false→Swaps tm J p q
 |preL (i:Id):p.2=.pre i→Swaps tm J p q
 |preR (i:Id):q.2=.pre i→Swaps tm J p q
 |readL (ld:Bool):p.2=.read ld→q.2≠.plain→Swaps tm J p q
 |readR (ld:Bool):q.2=.read ld→p.2≠.plain→Swaps tm J p q
 |lays (i j:Id):p.2=.lay i→q.2=.lay j→i≠j→Swaps tm J p q
 |layApp (i:Id) (args:Array Operand) (ts:Array TypeId):p.2=.lay i→q.2=.quiet→q.1.op=.call ⟨.builtin .append,args,ts⟩→Swaps tm J p q
 |appLay (j:Id) (args:Array Operand) (ts:Array TypeId):p.2=.quiet→p.1.op=.call ⟨.builtin .append,args,ts⟩→q.2=.lay j→Swaps tm J p q
 |places (t:TypeId) (a:Nat) (t':TypeId) (b:Nat) (y:Operand) (b₁:Id) (o₁:Nat) (b₂:Id) (o₂:Nat):p.1.op=.load t (.tmp a)→p.2=.read true→q.1.op=.store t' (.tmp b) y→q.2=.plain→
   tm.get a=.ptr b₁ o₁→tm.get b=.ptr b₂ o₂→b₁≠b₂→ ¬ zFY J b₁→Swaps tm J p q
theorem Rel.like'(h:Rel P φ H w)(hn:K.n.okN)(hbef:∀b,Before b H.n→Before b K.n)(hg:∀b k,φ b=some k→K.get b=H.get b):Rel P φ K w:=by
 refine⟨⟨hn,fun b k hb=>⟨(h.wf b k hb).1,hbef b (h.wf b k hb).2.1,(h.wf b k hb).2.2⟩,fun b k hb=>by rw[hg b k hb];exact h.blk b k hb,?_⟩,fun g cs q=>⟨(h.gl g cs q).1,(h.gl g cs q).2.1,fun b k x hb hx=>(h.gl g cs q).2.2 b k x hb (by rw[←hg b k hb];exact hx)⟩⟩
 intro b c l k x y hb hc hne hr hx hy
 rw[hg b l hb]at hx;rw[hg c k hc]at hy
 exact h.sep b c l k x y hb hc hne hr hx hy
theorem swap_op(hC:yi P E)(hD:zo P E)(hG:wl P E){φ₀:Phi}{H₀:CH}{w₀:World}{l:List (Oper×Md)}(hI:DInv P φ₀ H₀ w₀ l φ H w){p q:Oper×Md}(hp:p∈l)(hq:q∈l)
  {tm:TT} {tmps:Array Value} (htm:TmR φ tm tmps) (hokp:wF tmps.size p.1=true) (hokq:wF tmps.size q.1=true) {H₁ H₂:CH} {vp vq:V}
  (h1:zAz P E tm H p.2 p.1.op=.ok vp H₁) (h2:zAz P E tm H₁ q.2 q.1.op=.ok vq H₂) (hsw:Swaps tm H₂ p q):
  ∃H₁',zAz P E tm H q.2 q.1.op=.ok vq H₁'∧zAz P E tm H₁' p.2 p.1.op=.ok vp H₂:=by
 have h:=hI.rel
 obtain⟨po,pm⟩:=p
 obtain⟨qo,qm⟩:=q
 have alike:∀{o:Oper} {m:Md} {x:V} {J:CH},(o,m)∈l→wF tmps.size o=true→m≠.plain→zAz P E tm H m o.op=.ok x J→Agree φ H J∧Rel P φ J w:=by
  intro o m x J hm hok hne hr
  cases m with
  |plain=>exact absurd rfl hne
  |quiet=>
   obtain⟨J',g1,rfl⟩:=zFu (show zDn P E tm H o.op=.ok x J from hr)
   obtain⟨φ',w',g2,g3⟩:=op_exists hC hD (zHi h) htm hok g1
   obtain⟨g4,g5⟩:=quiet_ext h g3
   have hag:Agree φ H (J'.thaw H.fz):=fun b k hb=>by rw[wH,g5 b (h.wf b k hb).1 (h.wf b k hb).2.1]
   exact⟨hag,h.like' (by rw[zEH];exact g2.nok) g4.before hag⟩
  |read ld=>
   obtain⟨rfl,_⟩:=zCx (K:=H) hG h (fun _ _ _=>rfl) htm rfl (Bool.and_eq_true_iff.1 hok).2 (hI.read _ hm ld rfl) (show zAa P E ld tm H o.op=.ok x J from hr)
   exact⟨fun _ _ _=>rfl,h⟩
  |pre i=>obtain⟨rfl,_⟩:=zFv (show preOp P i H o.op=.ok x J from hr);exact⟨fun _ _ _=>rfl,h⟩
  |lay i=>
   obtain⟨J',g1,rfl⟩:=zHf (show zEW P E i tm H o.op=.ok x J from hr)
   obtain⟨t,n,ps,e1⟩:=hI.lay _ hm i rfl
   have e1:o.op=.buildSlice t n ps:=e1
   obtain⟨k1,k2,k3,k4⟩:=hI.pend _ hm i (.inr rfl)
   rw[e1]at g1
   obtain⟨c,e,rfl,j1,j2,j3,_,_⟩:=wG (by rw[yl];exact k1) (show ze P t n (zW tm ps.toList) (H.named i)=.ok x J' from g1)
   have hag:Agree φ H (J'.named H.n):=fun b k hb=>by
    rw[zCC,j3 b (h.wf b k hb).1,yl,zCC,if_neg]
    rintro rfl;rw[k4]at hb;cases hb
   exact⟨hag,h.like' (by rw[yl];exact h.nok) (fun b hb=>by rw[yl];exact hb) hag⟩
 cases hsw with
 |coldL e hc=>
  cases(show pm=.plain from e)
  obtain⟨rfl,hK⟩:=zGy hc (show evOp P E tm H po.op=.ok vp H₁ from h1)
  exact⟨H₂,h2,hK H₂⟩
 |coldR e hc=>
  cases(show qm=.plain from e)
  obtain⟨rfl,hK⟩:=zGy hc (show evOp P E tm H₁ qo.op=.ok vq H₂ from h2)
  exact⟨H,hK H,h1⟩
 |preL i e=>
  cases(show pm=.pre i from e)
  obtain⟨rfl,_,hK⟩:=zFv (show preOp P i H po.op=.ok vp H₁ from h1)
  exact⟨H₂,h2,hK H₂⟩
 |preR i e=>
  cases(show qm=.pre i from e)
  obtain⟨rfl,_,hK⟩:=zFv (show preOp P i H₁ qo.op=.ok vq H₂ from h2)
  exact⟨H,hK H,h1⟩
 |readL ld e hne=>
  cases(show pm=.read ld from e)
  have h1':zAa P E ld tm H po.op=.ok vp H₁:=h1
  have hro:=hI.read _ hp ld rfl
  have hops:=(Bool.and_eq_true_iff.1 hokp).2
  obtain⟨rfl,_⟩:=zCx (K:=H) hG h (fun _ _ _=>rfl) htm rfl hops hro h1'
  obtain⟨hag,_⟩:=alike hq hokq hne h2
  exact⟨H₂,h2,(zCx hG h hag htm rfl hops hro h1').2⟩
 |readR ld e hne=>
  cases(show qm=.read ld from e)
  have h2':zAa P E ld tm H₁ qo.op=.ok vq H₂:=h2
  have hro:=hI.read _ hq ld rfl
  have hops:=(Bool.and_eq_true_iff.1 hokq).2
  obtain⟨hag,hrel⟩:=alike hp hokp hne h1
  obtain⟨rfl,h3⟩:=zCx (K:=H) hG hrel hag.symm htm rfl hops hro h2'
  exact⟨H,h3,h1⟩
 |lays i j e1 e2 hne=>
  cases(show pm=.lay i from e1)
  cases(show qm=.lay j from e2)
  obtain⟨J,g1,rfl⟩:=zHf (show zEW P E i tm H po.op=.ok vp H₁ from h1)
  obtain⟨J₂,g2,rfl⟩:=zHf (show zEW P E j tm (J.named H.n) qo.op=.ok vq H₂ from h2)
  obtain⟨t,n,ps,e3⟩:=hI.lay _ hp i rfl
  obtain⟨t',n',ps',e4⟩:=hI.lay _ hq j rfl
  have e3:po.op=.buildSlice t n ps:=e3
  have e4:qo.op=.buildSlice t' n' ps':=e4
  obtain⟨hi,_⟩:=hI.pend _ hp i (.inr rfl)
  obtain⟨hj,_⟩:=hI.pend _ hq j (.inr rfl)
  rw[e3]at g1
  rw[e4]at g2
  have g1:ze P t n (zW tm ps.toList) (H.named i)=.ok vp J:=g1
  have g2:ze P t' n' (zW tm ps'.toList) ((J.named H.n).named j)=.ok vq J₂:=g2
  obtain⟨c,e,hv,_,_,_,hall,_⟩:=wG (by rw[yl];exact hi) g1
  obtain⟨c',e',hv',_,_,_,hall',_⟩:=wG (by rw[yl];exact hj) g2
  rw[yl]at hv hv'
  subst hv;subst hv'
  rw[hall]at g1
  rw[hall']at g2
  cases i with
  |over=>exact hi.elim
  |mk ik ia ib ic id ie=>
   cases j with
   |over=>exact hj.elim
   |mk jk ja jb jc jd je=>
    cases H with
    |mk hn hf ht=>
     cases g1
     cases g2
     have hdig: ¬ (ia=ja∧ib=jb∧ic=jc∧id=jd∧ie=je):=by
      rintro⟨rfl,rfl,rfl,rfl,rfl⟩
      apply hne
      have:ik=jk:=by simp only[Id.wf]at hi hj;omega
      rw[this]
     refine⟨.mk hn hf (Tr.put (some (.cells c' e' 0 [])) ht ja jb jc jd je),?_,?_⟩
     ·show zEW P E _ tm _ qo.op=_
      rw[e4]
      show R.rec (motive:=fun _=>R) .no (fun v K=>.ok v (K.named hn)) (ze P t' n' (zW tm ps'.toList) (CH.mk (.mk jk ja jb jc jd je) hf ht))=_
      rw[hall'];rfl
     ·show zEW P E _ tm _ po.op=_
      rw[e3]
      show R.rec (motive:=fun _=>R) .no (fun v K=>.ok v (K.named hn)) (ze P t n (zW tm ps.toList) (CH.mk (.mk ik ia ib ic id ie) hf (Tr.put (some (.cells c' e' 0 [])) ht ja jb jc jd je)))=_
      rw[hall]
      show R.ok _ (CH.mk hn hf (Tr.put (some (.cells c e 0 [])) (Tr.put (some (.cells c' e' 0 [])) ht ja jb jc jd je) ia ib ic id ie))=R.ok _ (CH.mk hn hf (Tr.put (some (.cells c' e' 0 [])) (Tr.put (some (.cells c e 0 [])) ht ia ib ic id ie) ja jb jc jd je))
      rw[Tr.put_comm _ _ _ _ _ _ _ _ _ _ _ _ _ hdig]
 |layApp i args ts e1 e2 e3=>
  cases(show pm=.lay i from e1)
  cases(show qm=.quiet from e2)
  have e3:qo.op=.call ⟨.builtin .append,args,ts⟩:=e3
  obtain⟨J,g1,rfl⟩:=zHf (show zEW P E i tm H po.op=.ok vp H₁ from h1)
  obtain⟨t,n,ps,e4⟩:=hI.lay _ hp i rfl
  have e4:po.op=.buildSlice t n ps:=e4
  obtain⟨hi,hbi,_,hφi⟩:=hI.pend _ hp i (.inr rfl)
  rw[e4]at g1
  have g1:ze P t n (zW tm ps.toList) (H.named i)=.ok vp J:=g1
  obtain⟨c,e,hv,_,_,hget,hall,_⟩:=wG (by rw[yl];exact hi) g1
  rw[yl]at hv
  subst hv
  have hne:i≠H.n:=by
   rintro rfl
   have hlt:=Id.num_lt_top h.nok hbi
   have hok:=h.nok
   cases hq:H.n with
   |mk=>rw[hq]at hlt;exact Nat.lt_irrefl _ hlt
   |over=>rw[hq]at hok;exact hok
  have hwf:=h.wf
  have hnw:H.n.wf:=h.nok
  rw[hall]at g1
  cases i with
  |over=>exact hi.elim
  |mk ik ia ib ic id ie=>
   cases H with
   |mk hn hf ht=>
    cases hn with
    |over=>exact hnw.elim
    |mk nk na nb nc nd ne=>
     cases g1
     have hdig: ¬ (na=ia∧nb=ib∧nc=ic∧nd=id∧ne=ie):=by
      rintro⟨rfl,rfl,rfl,rfl,rfl⟩
      apply hne
      have hi':ik=(((na*16+nb.num)*16+nc.num)*16+nd.num)*16+ne.num:=hi
      have hn':nk=(((na*16+nb.num)*16+nc.num)*16+nd.num)*16+ne.num:=hnw
      have:ik=nk:=hi'.trans hn'.symm
      rw[this];rfl
     obtain⟨J₂,g2,rfl⟩:=zFu (show zDn P E tm (.mk (.mk nk na nb nc nd ne) hf (Tr.put (some (.cells c e 0 [])) ht ia ib ic id ie)) qo.op=.ok vq H₂ from h2)
     have g2:evOp P E tm (.mk (.mk nk na nb nc nd ne) nk (Tr.put (some (.cells c e 0 [])) ht ia ib ic id ie)) qo.op=.ok vq J₂:=g2
     have hout:=app_like (T':=ht) htm hokq e3 hnw (fun b k x hb=>by
      cases q:(CH.mk (.mk nk na nb nc nd ne) nk (Tr.put (some (.cells c e 0 [])) ht ia ib ic id ie)).set b x with
      |none=>exact q
      |some y=>
       exfalso
       have:=(CH.set_some q (hwf b k hb).1).2.2.1
       have hlt:=Id.num_lt_top (n:=.mk nk na nb nc nd ne) h.nok (hwf b k hb).2.1
       have:nk≤b.num:=this
       have hlt:b.num<nk:=hlt
       omega) (fun b k hb=>by
      have:=hget b (hwf b k hb).1
      rw[if_neg (by intro q;have q:b=.mk ik ia ib ic id ie:=q;subst q;rw[hφi]at hb;cases hb)]at this
      exact this.symm) g2
     have lay2:∀(m:Id) (T:Tr),zEW P E (.mk ik ia ib ic id ie) tm (.mk m hf T) po.op=.ok (.slice (.mk ik ia ib ic id ie) 0 n (capX n) (P.cellsOf e)) (.mk m hf (Tr.put (some (.cells c e 0 [])) T ia ib ic id ie)):=by
      intro m T
      rw[e4]
      show R.rec (motive:=fun _=>R) .no (fun v K=>.ok v (K.named m)) (ze P t n (zW tm ps.toList) (CH.mk (.mk ik ia ib ic id ie) hf T))=_
      rw[hall];rfl
     rcases hout with ⟨rfl,g3⟩|⟨cs,el,g3,g4⟩
     ·refine⟨.mk (.mk nk na nb nc nd ne) hf ht,?_,lay2 _ _⟩
      have g3:evOp P E tm (.mk (.mk nk na nb nc nd ne) nk ht) qo.op=.ok vq (.mk (.mk nk na nb nc nd ne) nk ht):=g3
      show thawR hf (evOp P E tm (.mk (.mk nk na nb nc nd ne) nk ht) qo.op)=_
      rw[g3];rfl
     ·have g3:evOp P E tm (.mk (.mk nk na nb nc nd ne) nk (Tr.put (some (.cells c e 0 [])) ht ia ib ic id ie)) qo.op=_:=g3
      have g4:evOp P E tm (.mk (.mk nk na nb nc nd ne) nk ht) qo.op=_:=g4
      rw[g2]at g3
      cases g3
      refine⟨.mk (Id.next (.mk nk na nb nc nd ne)) hf (Tr.put (some (.cells cs el 0 [])) ht na nb nc nd ne),?_,?_⟩
      ·show thawR hf (evOp P E tm (.mk (.mk nk na nb nc nd ne) nk ht) qo.op)=_
       rw[g4];rfl
      ·refine(lay2 _ _).trans ?_
       rw[Tr.put_comm _ _ _ _ _ _ _ _ _ _ _ _ _ (fun q=>hdig ⟨q.1.symm,q.2.1.symm,q.2.2.1.symm,q.2.2.2.1.symm,q.2.2.2.2.symm⟩)];rfl
 |appLay j args ts e1 e3 e2=>
  cases(show qm=.lay j from e2)
  cases(show pm=.quiet from e1)
  have e3:po.op=.call ⟨.builtin .append,args,ts⟩:=e3
  obtain⟨J₁,g2,rfl⟩:=zFu (show zDn P E tm H po.op=.ok vp H₁ from h1)
  obtain⟨J,g1,rfl⟩:=zHf (show zEW P E j tm (J₁.thaw H.fz) qo.op=.ok vq H₂ from h2)
  obtain⟨t,n,ps,e4⟩:=hI.lay _ hq j rfl
  have e4:qo.op=.buildSlice t n ps:=e4
  obtain⟨hi,hbi,_,hφi⟩:=hI.pend _ hq j (.inr rfl)
  rw[e4]at g1
  have g1:ze P t n (zW tm ps.toList) ((J₁.thaw H.fz).named j)=.ok vq J:=g1
  obtain⟨c,e,hv,_,_,_,hall,_⟩:=wG (by rw[yl];exact hi) g1
  rw[yl]at hv
  subst hv
  have hne:j≠H.n:=by
   rintro rfl
   have hlt:=Id.num_lt_top h.nok hbi
   have hok:=h.nok
   cases hq:H.n with
   |mk=>rw[hq]at hlt;exact Nat.lt_irrefl _ hlt
   |over=>rw[hq]at hok;exact hok
  have hwf:=h.wf
  have hnw:H.n.wf:=h.nok
  rw[hall]at g1
  cases j with
  |over=>exact hi.elim
  |mk ik ia ib ic id ie=>
   cases H with
   |mk hn hf ht=>
    cases hn with
    |over=>exact hnw.elim
    |mk nk na nb nc nd ne=>
     have hdig: ¬ (na=ia∧nb=ib∧nc=ic∧nd=id∧ne=ie):=by
      rintro⟨rfl,rfl,rfl,rfl,rfl⟩
      apply hne
      have hi':ik=(((na*16+nb.num)*16+nc.num)*16+nd.num)*16+ne.num:=hi
      have hn':nk=(((na*16+nb.num)*16+nc.num)*16+nd.num)*16+ne.num:=hnw
      have:ik=nk:=hi'.trans hn'.symm
      rw[this];rfl
     have g2:evOp P E tm (.mk (.mk nk na nb nc nd ne) nk ht) po.op=.ok vp J₁:=g2
     have lay2:∀(m:Id) (T:Tr),zEW P E (.mk ik ia ib ic id ie) tm (.mk m hf T) qo.op=.ok (.slice (.mk ik ia ib ic id ie) 0 n (capX n) (P.cellsOf e)) (.mk m hf (Tr.put (some (.cells c e 0 [])) T ia ib ic id ie)):=by
      intro m T
      rw[e4]
      show R.rec (motive:=fun _=>R) .no (fun v K=>.ok v (K.named m)) (ze P t n (zW tm ps.toList) (CH.mk (.mk ik ia ib ic id ie) hf T))=_
      rw[hall];rfl
     have hget:∀b k,φ b=some k→(CH.mk (.mk nk na nb nc nd ne) nk (Tr.put (some (.cells c e 0 [])) ht ia ib ic id ie)).get b=(CH.mk (.mk nk na nb nc nd ne) nk ht).get b:=by
      intro b k hb
      have ha:alloc R.no (CH.mk (.mk ik ia ib ic id ie) hf ht) (.cells c e 0 []) (fun _ H=>R.ok .nils H)=.ok .nils (.mk (Id.next (.mk ik ia ib ic id ie)) hf (Tr.put (some (.cells c e 0 [])) ht ia ib ic id ie)):=rfl
      obtain⟨H₃,q1,q2,q3,q4,q5⟩:=wK ha R.ok_ne hi
      cases q1
      have:=q5 b (hwf b k hb).1
      rw[if_neg (by intro q;have q:b=.mk ik ia ib ic id ie:=q;subst q;rw[hφi]at hb;cases hb)]at this
      exact this
     have hout:=app_like (T':=Tr.put (some (.cells c e 0 [])) ht ia ib ic id ie) htm hokp e3 hnw (fun b k x hb=>by
      cases q:(CH.mk (.mk nk na nb nc nd ne) nk ht).set b x with
      |none=>exact q
      |some y=>
       exfalso
       have:=(CH.set_some q (hwf b k hb).1).2.2.1
       have hlt:=Id.num_lt_top (n:=.mk nk na nb nc nd ne) h.nok (hwf b k hb).2.1
       have:nk≤b.num:=this
       have hlt:b.num<nk:=hlt
       omega) hget g2
     rcases hout with ⟨rfl,g3⟩|⟨cs,el,g3,g4⟩
     ·cases g1
      refine⟨_,lay2 _ _,?_⟩
      have g3:evOp P E tm (.mk (.mk nk na nb nc nd ne) nk (Tr.put (some (.cells c e 0 [])) ht ia ib ic id ie)) po.op=.ok vp (.mk (.mk nk na nb nc nd ne) nk (Tr.put (some (.cells c e 0 [])) ht ia ib ic id ie)):=g3
      show thawR hf (evOp P E tm (.mk (.mk nk na nb nc nd ne) nk (Tr.put (some (.cells c e 0 [])) ht ia ib ic id ie)) po.op)=_
      rw[g3];rfl
     ·have g3:evOp P E tm (.mk (.mk nk na nb nc nd ne) nk ht) po.op=_:=g3
      have g4:evOp P E tm (.mk (.mk nk na nb nc nd ne) nk (Tr.put (some (.cells c e 0 [])) ht ia ib ic id ie)) po.op=_:=g4
      rw[g2]at g3
      cases g3
      cases g1
      refine⟨_,lay2 _ _,?_⟩
      show thawR hf (evOp P E tm (.mk (.mk nk na nb nc nd ne) nk (Tr.put (some (.cells c e 0 [])) ht ia ib ic id ie)) po.op)=_
      rw[g4]
      show R.ok _ (CH.mk (Id.next (.mk nk na nb nc nd ne)) hf (Tr.put (some (.cells cs el 0 [])) (Tr.put (some (.cells c e 0 [])) ht ia ib ic id ie) na nb nc nd ne))=_
      rw[Tr.put_comm _ _ _ _ _ _ _ _ _ _ _ _ _ hdig];rfl
 |places t a t' b y b₁ o₁ b₂ o₂ e1 e2 e3 e4 ha hb hne hnd=>
  cases(show pm=.read true from e2)
  cases(show qm=.plain from e4)
  have e1:po.op=.load t (.tmp a):=e1
  have e3:qo.op=.store t' (.tmp b) y:=e3
  have h1':zAa P E true tm H po.op=.ok vp H₁:=h1
  obtain⟨rfl,_⟩:=zCx (K:=H) hG h (fun _ _ _=>rfl) htm rfl (Bool.and_eq_true_iff.1 hokp).2 (hI.read _ hp true rfl) h1'
  refine⟨H₂,h2,?_⟩
  have hopA:VR φ (tm.get a) _:=zAX (o:=.tmp a) (a:=⟨tmps,[]⟩) htm (List.all_eq_true.1 (Bool.and_eq_true_iff.1 hokp).2 _ (by show Operand.tmp a∈po.op.operands.toList;rw[e1];simp[Op.operands]))
  have hopB:VR φ (tm.get b) _:=zAX (o:=.tmp b) (a:=⟨tmps,[]⟩) htm (List.all_eq_true.1 (Bool.and_eq_true_iff.1 hokq).2 _ (by show Operand.tmp b∈qo.op.operands.toList;rw[e3];simp[Op.operands]))
  rw[ha]at hopA
  rw[hb]at hopB
  have hst:zBZ P t' (zG tm y) H₁ b₂ o₂=some H₂:=by
   have h2:evOp P E tm H₁ qo.op=.ok vq H₂:=h2
   rw[e3]at h2
   have h2:zAD .no (zGg P t' (zG tm y) H₁) (tm.get b)=.ok vq H₂:=h2
   rw[hb]at h2
   have h2:zEK (zBZ P t' (zG tm y) H₁ b₂ o₂)=.ok vq H₂:=h2
   cases hq:zBZ P t' (zG tm y) H₁ b₂ o₂ with
   |none=>rw[hq]at h2;cases h2
   |some z=>rw[hq]at h2;cases h2;rfl
  have hget:H₂.get b₁=H₁.get b₁:=by
   generalize Act.eval _ (Operand.tmp b)=xb at hopB
   generalize Act.eval _ (Operand.tmp a)=xa at hopA
   cases hopB with
   |glob _=>exact absurd hst (zGP _ _)
   |ptr _ _ kb hkb=>
    cases hopA with
    |glob _=>cases H₁;cases H₂;rfl
    |ptr _ _ ka hka=>
     rcases store_get h hkb hst b₁ (h.wf b₁ ka hka).1 hne with g|g
     ·exact g
     ·exact absurd g hnd
  show zAa P E true tm H₂ po.op=.ok vp H₂
  unfold zAa at h1' ⊢
  rw[e1]at h1' ⊢
  have h1':R.rec (motive:=fun _=>R) .no (fun v _=>R.ok v H₁) (zAD R.no (zES P t H₁) (tm.get a))=.ok vp H₁:=h1'
  show R.rec (motive:=fun _=>R) .no (fun v _=>R.ok v H₂) (zAD R.no (zES P t H₂) (tm.get a))=.ok vp H₂
  rw[ha]at h1' ⊢
  have h1':R.rec (motive:=fun _=>R) .no (fun v _=>R.ok v H₁) (zt H₁ (zBB P t H₁ b₁ o₁))=.ok vp H₁:=h1'
  show R.rec (motive:=fun _=>R) .no (fun v _=>R.ok v H₂) (zt H₂ (zBB P t H₂ b₁ o₁))=.ok vp H₂
  rw[zGl hget]
  cases hq:zBB P t H₁ b₁ o₁ with
  |none=>rw[hq]at h1';cases h1'
  |some z=>rw[hq]at h1';cases h1';rfl
end Vam
namespace Vam
open Go
variable {P:Program}{φ:Phi}{H H' K:CH}{w:World}{v:V}{E:Ev}
def befOf(acc:List Nat)(o:Oper):Nat:=o.after.toList.foldl (fun b e=>if Region.binds .any e then b ||| 2 ^ e.on ||| acc.getD e.on 0 else b) 0
theorem befores_eq(ops:List Oper):zFM ops=ops.foldl (fun acc o=>acc++[befOf acc o]) []:=rfl
theorem bef_fold(l:List Oper):∀(acc:List Nat),∃t,l.foldl (fun acc o=>acc++[befOf acc o]) acc=acc++t∧t.length=l.length:=by
 induction l with
 |nil=>intro acc;exact⟨[],by simp,rfl⟩
 |cons o l ih=>
  intro acc
  obtain⟨t,h1,h2⟩:=ih (acc++[befOf acc o])
  exact⟨befOf acc o::t,by rw[List.foldl_cons,h1];simp,by simp[h2]⟩
theorem bef_at{ops:List Oper}{j:Nat}{o:Oper}(h:ops[j]? =some o):
  ∃acc:List Nat,(zFM ops).getD j 0=befOf acc o∧∀m,m<j→acc.getD m 0=(zFM ops).getD m 0:=by
 obtain⟨hj,ho⟩:=List.getElem?_eq_some_iff.1 h
 have hsplit:ops=ops.take j++o::ops.drop (j+1):=by
  rw[←ho,List.getElem_cons_drop hj,List.take_append_drop]
 obtain⟨t,h1,h2⟩:=bef_fold (ops.take j) []
 have hlen:t.length=j:=by rw[h2,List.length_take];omega
 obtain⟨t',h3,h4⟩:=bef_fold (ops.drop (j+1)) (t++[befOf t o])
 have hb:zFM ops=t++[befOf t o]++t':=by
  rw[befores_eq]
  conv=>lhs;rw[hsplit]
  rw[List.foldl_append,h1,List.foldl_cons]
  simpa using h3
 refine⟨t,?_,?_⟩
 ·rw[hb,List.getD_eq_getElem?_getD,List.append_assoc,List.getElem?_append_right (by omega),hlen,Nat.sub_self];simp
 ·intro m hm
  rw[hb,List.getD_eq_getElem?_getD,List.getD_eq_getElem?_getD,List.append_assoc,List.getElem?_append_left (by omega)]
theorem zGu(acc:List Nat)(l:List Edge)(i:Nat):∀(b:Nat),(l.foldl (fun b e=>if Region.binds .any e then b ||| 2 ^ e.on ||| acc.getD e.on 0 else b) b).testBit i=true→
  b.testBit i=true∨∃e∈l,Region.binds .any e=true∧(e.on=i∨(acc.getD e.on 0).testBit i=true):=by
 induction l with
 |nil=>intro b h;exact .inl h
 |cons e l ih=>
  intro b h
  rw[List.foldl_cons]at h
  rcases ih _ h with h1|⟨e',h1,h2⟩
  ·split at h1
   ·rename_i hb
    rw[Nat.testBit_or,Nat.testBit_or,Bool.or_eq_true,Bool.or_eq_true]at h1
    rcases h1 with (h1|h1)|h1
    ·exact .inl h1
    ·rw[Nat.testBit_two_pow]at h1
     exact .inr ⟨e,by simp,hb,.inl (by simpa using h1)⟩
    ·exact .inr ⟨e,by simp,hb,.inr h1⟩
   ·exact .inl h1
  ·exact .inr ⟨e',by simp[h1],h2⟩
structure DrawOk(P:Program)(ops:List Oper):Prop where
 back:∀j o,ops[j]? =some o→∀e∈o.after.toList,Region.binds .any e=true→e.on<j
 pair:∀i j oi oj,i<j→ops[i]? =some oi→ops[j]? =some oj→okPair P ops i j oi oj=true
theorem drawOk{ops:List Oper}(h:okDraw P ops=true):DrawOk P ops:=by
 unfold okDraw at h
 rw[List.all_eq_true]at h
 have key:∀j o,ops[j]? =some o→((o.after.toList.all fun e=> !Region.binds .any e||Nat.blt e.on j)&&(ops.take j).zipIdx.all fun oi=>okPair P ops oi.2 j oi.1 o)=true:=by
  intro j o ho
  exact h (o,j) (List.mem_zipIdx_iff_getElem?.2 ho)
 refine⟨?_,?_⟩
 ·intro j o ho e he hb
  have:=List.all_eq_true.1 (Bool.and_eq_true_iff.1 (key j o ho)).1 e he
  rw[hb]at this
  exact yu (by simpa using this)
 ·intro i j oi oj hij hi hj
  have:=List.all_eq_true.1 (Bool.and_eq_true_iff.1 (key j oj hj)).2 (oi,i) (List.mem_zipIdx_iff_getElem?.2 (by rw[List.getElem?_take,if_pos hij];exact hi))
  exact this
theorem zEw{ops:List Oper}(hd:DrawOk P ops){D:Nat→Prop}(hcl:∀j o,ops[j]? =some o→D j→∀e∈o.after.toList,Region.binds .any e=true→D e.on):
  ∀(j:Nat) (o:Oper),ops[j]? =some o→(∀e∈o.after.toList,Region.binds .any e=true→D e.on)→∀i,i<j→wL ops i j=true→D i:=by
 intro j
 induction j using Nat.strongRecOn with
 |_ j ih=>
  intro o ho hrd i hij hor
  unfold wL at hor
  rw[Nat.max_eq_right (Nat.le_of_lt hij),Nat.min_eq_left (Nat.le_of_lt hij)]at hor
  obtain⟨acc,h1,h2⟩:=bef_at ho
  rw[h1]at hor
  rcases zGu acc _ i 0 hor with h3|⟨e,h3,h4,h5⟩
  ·simp at h3
  ·have hej:=hd.back j o ho e h3 h4
   rcases h5 with rfl|h5
   ·exact hrd e h3 h4
   ·rw[h2 e.on hej]at h5
    have hj:j<ops.length:=(List.getElem?_eq_some_iff.1 ho).1
    have ho':ops[e.on]? =some ops[e.on]:=List.getElem?_eq_getElem (by omega)
    by_cases hie:i<e.on
    ·refine ih e.on hej _ ho' (hcl e.on _ ho' (hrd e h3 h4)) i hie ?_
     unfold wL
     rw[Nat.max_eq_right (Nat.le_of_lt hie),Nat.min_eq_left (Nat.le_of_lt hie)];exact h5
    ·
     exfalso
     have hlow:∀(m:Nat) (o:Oper),ops[m]? =some o→∀i,((zFM ops).getD m 0).testBit i=true→i<m:=by
      intro m
      induction m using Nat.strongRecOn with
      |_ m ihm=>
       intro o ho i hb
       obtain⟨acc,g1,g2⟩:=bef_at ho
       rw[g1]at hb
       rcases zGu acc _ i 0 hb with g3|⟨e',g3,g4,g5⟩
       ·simp at g3
       ·have g6:=hd.back m o ho e' g3 g4
        rcases g5 with rfl|g5
        ·exact g6
        ·rw[g2 _ g6]at g5
         have hm:m<ops.length:=(List.getElem?_eq_some_iff.1 ho).1
         have:=ihm e'.on g6 _ (List.getElem?_eq_getElem (by omega)) i g5
         omega
     have:=hlow e.on _ ho' i h5
     omega
theorem untied{ops:List Oper}{j:Nat}{o:Oper}(ho:ops[j]? =some o)(ht:tied o=false){i:Nat}(hij:i<j):wL ops i j=false:=by
 cases hor:wL ops i j with
 |false=>rfl
 |true=>
  exfalso
  unfold wL at hor
  rw[Nat.max_eq_right (Nat.le_of_lt hij),Nat.min_eq_left (Nat.le_of_lt hij)]at hor
  obtain⟨acc,h1,_⟩:=bef_at ho
  rw[h1]at hor
  rcases zGu acc _ i 0 hor with h3|⟨e,h3,h4,_⟩
  ·simp at h3
  ·unfold tied at ht
   rw[List.any_eq_false]at ht
   exact ht e h3 h4
inductive MdOf:M0→Md→Prop where
 |plain:MdOf .plain .plain
 |quiet:MdOf .quiet .quiet
 |read (ld:Bool):MdOf (.read ld) (.read ld)
 |pre (i:Id):MdOf .pre (.pre i)
 |lay (i:Id):MdOf .lay (.lay i)
inductive ResR:List (Oper×M0)→List (Oper×Md)→Prop where
 |nil:ResR [] []
 |cons (o:Oper) (m:M0) (d:Md) (l:List (Oper×M0)) (F:List (Oper×Md)):MdOf m d→ResR l F→ResR ((o,m)::l) ((o,d)::F)
theorem ResR.get{l:List (Oper×M0)}{F:List (Oper×Md)}(h:ResR l F):∀{k:Nat} {o:Oper} {m:M0},l[k]? =some (o,m)→∃d,F[k]? =some (o,d)∧MdOf m d:=by
 induction h with
 |nil=>intro k o m h;simp at h
 |cons o m d l F h1 _ ih=>
  intro k o' m' hk
  cases k with
  |zero=>simp at hk;obtain⟨rfl,rfl⟩:=hk;exact⟨d,by simp,h1⟩
  |succ k=>simpa using ih (by simpa using hk)
theorem ResR.len{l:List (Oper×M0)}{F:List (Oper×Md)}(h:ResR l F):F.length=l.length:=by
 induction h with
 |nil=>rfl
 |cons _ _ _ _ _ _ _ ih=>simp[ih]
structure ResI(P:Program)(l:List (Oper×M0))(H:CH)(F:List (Oper×Md))(H':CH):Prop where
 rr:ResR l F
 nok:H'.n.okN
 fz:H'.fz=H.fz
 bef:∀b,Before b H.n→Before b H'.n
 get:∀b,b.wf→Before b H.n→H'.get b=H.get b
 ids:∀p∈F,∀i,zFk p i→i.wf∧Before i H'.n∧ ¬ Before i H.n
 pre:∀p∈F,∀i,p.2=.pre i→∃x,zEP P p.1.op=some x∧H'.get i=some x
 apart:F.Pairwise (fun p q=>∀i j,zFk p i→zFk q j→i≠j)
theorem zBy{o:Oper}{m:Md}{r:RS}{F:List (Oper×Md)}(h:wX o m r=.ok F H'):∃F',r=.ok F' H'∧F=(o,m)::F':=by
 cases r with
 |no=>cases h
 |ok l J=>cases h;exact⟨l,rfl,rfl⟩
theorem RS.ok_ne{F:List (Oper×Md)}:RS.ok F H≠RS.no:=by intro h;cases h
theorem res_none{o:Oper}{m:M0}{d:Md}{l:List (Oper×M0)}{F:List (Oper×Md)}(hm:MdOf m d)(hn:∀i, ¬ zFk (o,d) i)(h:ResI P l H F H'):ResI P ((o,m)::l) H ((o,d)::F) H':=by
 refine⟨.cons o m d l F hm h.rr,h.nok,h.fz,h.bef,h.get,?_,?_,?_⟩
 ·intro p hp i hi
  rcases List.mem_cons.1 hp with rfl|hp
  ·exact absurd hi (hn i)
  ·exact h.ids p hp i hi
 ·intro p hp i hi
  rcases List.mem_cons.1 hp with rfl|hp
  ·exact absurd (.inl hi) (hn i)
  ·exact h.pre p hp i hi
 ·exact List.pairwise_cons.2 ⟨fun q _ i j hi=>absurd hi (hn i),h.apart⟩
theorem res_name{o:Oper}{m:M0}{d:Md}{l:List (Oper×M0)}{F:List (Oper×Md)}(hm:MdOf m d)(hd:∀i,zFk (o,d) i→i=H.n)(hn:H.n.wf)(e1:K.n=H.n.next)(e2:K.fz=H.fz)(e3:∀j:Id,j.wf→j≠H.n→K.get j=H.get j)
  (hp:∀i,d=.pre i→∃x,zEP P o.op=some x∧K.get i=some x) (h:ResI P l K F H'):ResI P ((o,m)::l) H ((o,d)::F) H':=by
 have hself:Before H.n K.n:=by rw[e1];exact Before.self hn
 refine⟨.cons o m d l F hm h.rr,h.nok,h.fz.trans e2,fun b hb=>h.bef b (by rw[e1];exact Before.next hn hb),?_,?_,?_,?_⟩
 ·intro b hb hbn
  rw[h.get b hb (by rw[e1];exact Before.next hn hbn),e3 b hb]
  rintro rfl;exact zU hn hbn
 ·intro p hp' i hi
  rcases List.mem_cons.1 hp' with rfl|hp'
  ·obtain rfl:=hd i hi
   exact⟨hn,h.bef _ hself,zU hn⟩
  ·obtain⟨q1,q2,q3⟩:=h.ids p hp' i hi
   exact⟨q1,q2,fun hb=>q3 (by rw[e1];exact Before.next hn hb)⟩
 ·intro p hp' i hi
  rcases List.mem_cons.1 hp' with rfl|hp'
  ·obtain⟨x,q1,q3⟩:=hp i hi
   obtain rfl:=hd i (.inl hi)
   exact⟨x,q1,by rw[h.get _ hn hself];exact q3⟩
  ·exact h.pre p hp' i hi
 ·refine List.pairwise_cons.2 ⟨fun q hq i j hi hj=>?_,h.apart⟩
  obtain rfl:=hd i hi
  rintro rfl
  exact(h.ids q hq _ hj).2.2 hself
theorem resv_ok:∀(l:List (Oper×M0)) {H H':CH} {F:List (Oper×Md)},H.n.okN→resv P l H=.ok F H'→ResI P l H F H':=by
 intro l
 induction l with
 |nil=>
  intro H H' F hn h
  cases(show RS.ok [] H=.ok F H' from h)
  exact⟨.nil,hn,rfl,fun _ h=>h,fun _ _ _=>rfl,fun p hp=>(by cases hp),fun p hp=>(by cases hp),List.Pairwise.nil⟩
 |cons p l ih=>
  intro H H' F hn h
  obtain⟨o,m⟩:=p
  have h:res1 P o m H (resv P l)=.ok F H':=h
  cases m with
  |plain=>
   obtain⟨F',h1,rfl⟩:=zBy (show wX o .plain (resv P l H)=.ok F H' from h)
   exact res_none .plain (fun i hi=>by rcases hi with hi|hi<;>cases hi) (ih hn h1)
  |quiet=>
   obtain⟨F',h1,rfl⟩:=zBy (show wX o .quiet (resv P l H)=.ok F H' from h)
   exact res_none .quiet (fun i hi=>by rcases hi with hi|hi<;>cases hi) (ih hn h1)
  |read ld=>
   obtain⟨F',h1,rfl⟩:=zBy (show wX o (.read ld) (resv P l H)=.ok F H' from h)
   exact res_none (.read ld) (fun i hi=>by rcases hi with hi|hi<;>cases hi) (ih hn h1)
  |pre=>
   obtain⟨x,he,h2⟩:=zP (show opt .no (fun x=>alloc .no H x (fun n H=>wX o (.pre n) (resv P l H))) (zEP P o.op)=.ok F H' from h) RS.ok_ne
   obtain⟨K,h3,h4,h5,h6,h7⟩:=wK h2 RS.ok_ne hn
   obtain⟨F',h8,rfl⟩:=zBy h3
   have hK:K.n.okN:=by rw[h5];exact Id.okN_next h4
   refine res_name (.pre H.n) (fun i hi=>by rcases hi with hi|hi<;>cases hi;rfl) h4 h5 h6 (fun j hj hne=>by rw[h7 j hj,if_neg hne]) ?_ (ih hK h8)
   intro i hi
   cases hi
   exact⟨x,he,by rw[h7 _ h4,if_pos rfl]⟩
  |lay=>
   cases H with
   |mk n f t=>
    cases n with
    |over=>cases(show RS.no=.ok F H' from h)
    |mk k a b c d e=>
     have hw:(Id.mk k a b c d e).wf:=hn
     have h:wX o (.lay (.mk k a b c d e)) (resv P l (.mk (Id.next (.mk k a b c d e)) f t))=.ok F H':=h
     obtain⟨F',h8,rfl⟩:=zBy h
     refine res_name (H:=CH.mk (.mk k a b c d e) f t) (K:=CH.mk (Id.next (.mk k a b c d e)) f t) (.lay _) (fun i hi=>by rcases hi with hi|hi<;>cases hi;rfl) hw rfl rfl (fun j _ _=>by cases j<;>rfl) (fun i hi=>by cases hi) (ih (Id.okN_next hw) h8)
end Vam
namespace Vam
open Go
variable {P:Program}{φ:Phi}{H H' K:CH}{w:World}{v:V}{E:Ev}
noncomputable def dflt:Oper×Md:=(default,.plain)
noncomputable def its(F:List (Oper×Md))(I:List Nat):List (Oper×Md):=I.map fun k=>F.getD k dflt
structure Reg(P:Program)(ops:Array Oper)(F:List (Oper×Md)):Prop where
 ok:DrawOk P ops.toList
 at':∀k o,ops[k]? =some o→∃d,F.getD k dflt=(o,d)∧MdOf (wa P ops.toList k o) d
 len:F.length=ops.size
 apart:∀i j,i<ops.size→j<ops.size→i≠j→∀a b,zFk (F.getD i dflt) a→zFk (F.getD j dflt) b→a≠b
def Incr(n:Nat)(I:List Nat):Prop:=I.Pairwise (· < ·)∧∀k∈I,k<n
theorem zHe{ops:List Oper}{k:Nat}{o:Oper}(h:wa P ops k o≠.plain):wa P ops k o=zAx P o∧zEz o.op=true:=by
 unfold wa at h ⊢
 split at h
 ·rename_i hc;rw[if_pos hc];exact⟨rfl,(Bool.and_eq_true_iff.1 hc).1⟩
 ·exact absurd rfl h
theorem loose_pre{o:Oper}(h:zAx P o=.pre):tied o=false:=by
 unfold zAx at h
 cases ho:o.op with
 |alloc e=>
  rw[ho]at h
  have h:(if(!tied o&&o.guard.isNone&&o.dst.isSome)=true then M0.pre else .quiet)=.pre:=h
  split at h
  ·rename_i hc
   rw[Bool.and_eq_true_iff,Bool.and_eq_true_iff]at hc
   simpa using hc.1.1
  ·cases h
 |makeSlice t l c=>
  rw[ho]at h
  cases l<;>cases c<;>first|(cases h;done)|skip
  have h:(if(!tied o&&o.guard.isNone&&o.dst.isSome)=true then M0.pre else .quiet)=.pre:=h
  split at h
  ·rename_i hc
   rw[Bool.and_eq_true_iff,Bool.and_eq_true_iff]at hc
   simpa using hc.1.1
  ·cases h
 |call c=>
  rw[ho]at h
  have h:zCa P o.type c.callee=.pre:=h
  unfold zCa at h
  split at h<;>first|cases h|(split at h<;>cases h)
 |_=>rw[ho]at h;cases h
theorem loose_lay{o:Oper}(h:zAx P o=.lay):∃t n ps,o.op=.buildSlice t n ps:=by
 unfold zAx at h
 cases ho:o.op with
 |buildSlice t n ps=>exact⟨t,n,ps,rfl⟩
 |alloc e=>
  rw[ho]at h
  have h:(if(!tied o&&o.guard.isNone&&o.dst.isSome)=true then M0.pre else .quiet)=.lay:=h
  split at h<;>cases h
 |makeSlice t l c=>
  rw[ho]at h
  cases l<;>cases c<;>first|(cases h;done)|skip
  have h:(if(!tied o&&o.guard.isNone&&o.dst.isSome)=true then M0.pre else .quiet)=.lay:=h
  split at h<;>cases h
 |call c=>
  rw[ho]at h
  have h:zCa P o.type c.callee=.lay:=h
  unfold zCa at h
  split at h<;>first|cases h|(split at h<;>cases h)
 |_=>rw[ho]at h;cases h
theorem mode_pre{ops:List Oper}{k:Nat}{o:Oper}(h:wa P ops k o=.pre):tied o=false∧zEz o.op=true:=by
 obtain⟨h1,h2⟩:=zHe (P:=P) (ops:=ops) (k:=k) (o:=o) (by rw[h];simp)
 exact⟨loose_pre (h1.symm.trans h),h2⟩
theorem mode_lay{ops:List Oper}{k:Nat}{o:Oper}(h:wa P ops k o=.lay):∃t n ps,o.op=.buildSlice t n ps:=by
 obtain⟨h1,_⟩:=zHe (P:=P) (ops:=ops) (k:=k) (o:=o) (by rw[h];simp)
 exact loose_lay (h1.symm.trans h)
theorem zFn{m:M0}{d:Md}(hm:MdOf m d)(h:still m=true):d≠.plain:=by
 cases hm<;>first|(cases h;done)|(intro e;cases e)
theorem zGn{m:M0}{d:Md}(hm:MdOf m d)(h:isRead m=true):∃ld,d=.read ld∧m=.read ld:=by
 cases hm<;>first|(cases h;done)|exact⟨_,rfl,rfl⟩
theorem isPre_ex{m:M0}{d:Md}(hm:MdOf m d)(h:isPre m=true):∃i,d=.pre i∧m=.pre:=by
 cases hm<;>first|(cases h;done)|exact⟨_,rfl,rfl⟩
theorem zGB{m:M0}{d:Md}(hm:MdOf m d)(h:isLay m=true):∃i,d=.lay i∧m=.lay:=by
 cases hm<;>first|(cases h;done)|exact⟨_,rfl,rfl⟩
theorem zHg{m:M0}{d:Md}(hm:MdOf m d)(h:isQuiet m=true):d=.quiet:=by
 cases hm<;>first|(cases h;done)|rfl
theorem isApp_ex{o:Op}(h:isApp o=true):∃args ts,o=.call ⟨.builtin .append,args,ts⟩:=by
 unfold isApp at h
 split at h
 ·rename_i c
  obtain⟨callee,args,ts⟩:=c
  split at h
  ·rename_i hc
   have hc:callee=.builtin .append:=hc
   subst hc
   exact⟨args,ts,rfl⟩
  ·cases h
 ·cases h
inductive Beside(ops:List Oper)(i j:Nat)(p q:Oper×Md):Prop where
 |coldL:p.2=.plain→zEz p.1.op=false→Beside ops i j p q
 |coldR:q.2=.plain→zEz q.1.op=false→Beside ops i j p q
 |preL (a:Id):p.2=.pre a→q.2≠.plain→Beside ops i j p q
 |preR (a:Id):q.2=.pre a→p.2≠.plain→Beside ops i j p q
 |readL (ld:Bool):p.2=.read ld→q.2≠.plain→Beside ops i j p q
 |readR (ld:Bool):q.2=.read ld→p.2≠.plain→Beside ops i j p q
 |lays (a b:Id):p.2=.lay a→q.2=.lay b→Beside ops i j p q
 |layApp (a:Id) (args:Array Operand) (ts:Array TypeId):p.2=.lay a→q.2=.quiet→q.1.op=.call ⟨.builtin .append,args,ts⟩→Beside ops i j p q
 |appLay (b:Id) (args:Array Operand) (ts:Array TypeId):p.2=.quiet→p.1.op=.call ⟨.builtin .append,args,ts⟩→q.2=.lay b→Beside ops i j p q
 |places (t:TypeId) (a:Nat) (t':TypeId) (b:Nat) (y:Operand):p.1.op=.load t (.tmp a)→p.2=.read true→q.1.op=.store t' (.tmp b) y→q.2=.plain→zCJ ops a i=true→zCJ ops b j=true→Beside ops i j p q
theorem zHn{ops:List Oper}{k:Nat}{o:Oper}{d:Md}(hm:MdOf (wa P ops k o) d)(h:zEz o.op=false):d=.plain:=by
 have:wa P ops k o=.plain:=by unfold wa;rw[h];rfl
 rw[this]at hm
 cases hm;rfl
theorem beside{ops:List Oper}(hd:DrawOk P ops){i j:Nat}{oi oj:Oper}{di dj:Md}(hij:i<j)(hi:ops[i]? =some oi)(hj:ops[j]? =some oj)(hmi:MdOf (wa P ops i oi) di)(hmj:MdOf (wa P ops j oj) dj)
  (hno:wL ops i j=false):(∀d,oi.dst=some d→d ∉ wT ops oj)∧(∀d,oj.dst=some d→d ∉ wT ops oi)∧Beside ops i j (oi,di) (oj,dj):=by
 have h:=hd.pair i j oi oj hij hi hj
 unfold okPair at h
 rw[hno,Bool.false_or,Bool.and_eq_true_iff,Bool.and_eq_true_iff]at h
 obtain⟨⟨h1,h2⟩,h3⟩:=h
 have free:∀{x y:Oper},freeOf ops x y=true→∀d,x.dst=some d→d ∉ wT ops y:=by
  intro x y hf d hx
  unfold freeOf at hf
  rw[hx]at hf
  simpa using hf
 refine⟨free h1,free h2,?_⟩
 unfold okModes at h3
 simp only[Bool.or_eq_true]at h3
 rcases h3 with ((((((((h3|h3)|h3)|h3)|h3)|h3)|h3)|h3)|h3)|h3
 ·exact .coldL (zHn hmi (by simpa using h3)) (by simpa using h3)
 ·exact .coldR (zHn hmj (by simpa using h3)) (by simpa using h3)
 ·obtain⟨h4,h5⟩:=Bool.and_eq_true_iff.1 h3
  obtain⟨a,rfl,_⟩:=isPre_ex hmi h4
  exact .preL a rfl (zFn hmj h5)
 ·obtain⟨h4,h5⟩:=Bool.and_eq_true_iff.1 h3
  obtain⟨a,rfl,_⟩:=isPre_ex hmj h4
  exact .preR a rfl (zFn hmi h5)
 ·obtain⟨h4,h5⟩:=Bool.and_eq_true_iff.1 h3
  obtain⟨ld,rfl,_⟩:=zGn hmi h4
  exact .readL ld rfl (zFn hmj h5)
 ·obtain⟨h4,h5⟩:=Bool.and_eq_true_iff.1 h3
  obtain⟨ld,rfl,_⟩:=zGn hmj h4
  exact .readR ld rfl (zFn hmi h5)
 ·obtain⟨h4,h5⟩:=Bool.and_eq_true_iff.1 h3
  obtain⟨a,rfl,_⟩:=zGB hmi h4
  obtain⟨b,rfl,_⟩:=zGB hmj h5
  exact .lays a b rfl rfl
 ·obtain⟨h4,h5⟩:=Bool.and_eq_true_iff.1 h3
  obtain⟨ld,rfl,hmi'⟩:=zGn hmi h4
  have hro:=mode_read hmi'
  unfold okPlaces zEQ at h5
  split at h5
  ·rename_i p hp
   split at hp
   ·rename_i t a t' b y h6 h7
    cases hp
    obtain⟨h8,h9⟩:=Bool.and_eq_true_iff.1 h5
    obtain rfl:ld=true:=by unfold zHH at hro;rw[h6]at hro;exact hro
    by_cases hp:dj=.plain
    ·exact .places t a t' b y h6 rfl h7 hp h8 h9
    ·exact .readL true rfl hp
   ·cases hp
  ·cases h5
 ·obtain⟨h4,h5⟩:=Bool.and_eq_true_iff.1 h3
  obtain⟨h6,h7⟩:=Bool.and_eq_true_iff.1 h5
  obtain⟨a,rfl,_⟩:=zGB hmi h4
  obtain⟨args,ts,h8⟩:=isApp_ex h7
  exact .layApp a args ts rfl (zHg hmj h6) h8
 ·obtain⟨h4,h5⟩:=Bool.and_eq_true_iff.1 h3
  obtain⟨h6,h7⟩:=Bool.and_eq_true_iff.1 h5
  obtain⟨b,rfl,_⟩:=zGB hmj h4
  obtain⟨args,ts,h8⟩:=isApp_ex h7
  exact .appLay b args ts (zHg hmi h6) h8 rfl
theorem zGA{ops:Array Oper}{F:List (Oper×Md)}(hR:Reg P ops F){k:Nat}(hk:k<ops.size){I:List Nat}(hI:∀m∈I,m<ops.size∧m≠k∧(m<k→wL ops.toList m k=false)):Keeps (F.getD k dflt) (its F I):=by
 refine⟨?_,?_⟩
 ·intro q hq i j hi hj
  obtain⟨m,hm,rfl⟩:=List.mem_map.1 hq
  exact hR.apart k m hk (hI m hm).1 (hI m hm).2.1.symm i j hi hj
 ·intro q hq i hi
  obtain⟨m,hm,rfl⟩:=List.mem_map.1 hq
  obtain⟨h1,h2,h3⟩:=hI m hm
  have hok:ops.toList[k]? =some ops[k]:=by simp[hk]
  have hom:ops.toList[m]? =some ops[m]:=by simp[h1]
  obtain⟨dk,e1,e2⟩:=hR.at' k ops[k] (by simp[hk])
  obtain⟨dm,e3,e4⟩:=hR.at' m ops[m] (by simp[h1])
  rw[e1]
  rw[e3]at hi
  cases(show dm=.pre i from hi)
  have hmode:wa P ops.toList m ops[m]=.pre:=by
   generalize wa P ops.toList m ops[m]=x at e4
   cases e4;rfl
  obtain⟨ht,hh⟩:=mode_pre hmode
  rcases Nat.lt_or_gt_of_ne h2 with hlt|hgt
  ·obtain⟨_,_,hb⟩:=beside hR.ok hlt hom hok e4 e2 (h3 hlt)
   cases hb with
   |coldL e _=>cases e
   |coldR _ e=>exact .inr e
   |preL a _ hne=>exact .inl hne
   |preR a e _=>exact .inl (by rw[show dk=_ from e];simp)
   |readL ld e _=>cases e
   |readR ld e _=>exact .inl (by rw[show dk=_ from e];simp)
   |lays a b e _=>cases e
   |layApp a _ _ e _ _=>cases e
   |appLay b _ _ e _ _=>cases e
   |places _ _ _ _ _ _ e=>cases e
  ·obtain⟨_,_,hb⟩:=beside hR.ok hgt hok hom e2 e4 (untied hom ht hgt)
   cases hb with
   |coldL _ e=>exact .inr e
   |coldR e _=>cases e
   |preL a e _=>exact .inl (by rw[show dk=_ from e];simp)
   |preR a _ hne=>exact .inl hne
   |readL ld e _=>exact .inl (by rw[show dk=_ from e];simp)
   |readR ld e _=>cases e
   |lays a b _ e=>cases e
   |layApp a _ _ _ e _=>cases e
   |appLay b _ _ _ _ e=>cases e
   |places _ _ _ _ _ _ e=>exact .inl (by rw[show dk=_ from e];simp)
theorem zFt{all:List Oper}{p:Oper×Md}{l:List (Oper×Md)}{tm tm':TT}(h:wv P E all (p::l) tm H=.ok tm' H'):∃tm₁ H₁,yN P E all p tm H=.ok tm₁ H₁∧wv P E all l tm₁ H₁=.ok tm' H':=by
 have h:RO.rec (motive:=fun _=>RO) .no (wv P E all l) (yN P E all p tm H)=.ok tm' H':=h
 cases q:yN P E all p tm H with
 |no=>rw[q]at h;cases h
 |ok tm₁ H₁=>rw[q]at h;exact⟨tm₁,H₁,rfl,h⟩
theorem run_cons'{all:List Oper}{p:Oper×Md}{l:List (Oper×Md)}{tm tm₁:TT}{H₁:CH}(h:yN P E all p tm H=.ok tm₁ H₁):wv P E all (p::l) tm H=wv P E all l tm₁ H₁:=by
 show RO.rec (motive:=fun _=>RO) .no (wv P E all l) (yN P E all p tm H)=_
 rw[h]
theorem zEJ{all:List Oper}{p:Oper×Md}{tm tm₁:TT}{H₁:CH}{a:Nat}(h:yN P E all p tm H=.ok tm₁ H₁)(hl:Lows all p.1)(ha:a<1024)(hne:p.1.dst≠some a):tm₁.get a=tm.get a:=by
 rcases zGQ h with ⟨_,v,_,rfl⟩|⟨_,_,rfl⟩
 ·exact zFs _ _ (fun i hi=>hl.1 i hi) ha hne
 ·exact zFs _ _ (fun i hi=>hl.1 i hi) ha hne
theorem run_get{all:List Oper}{a:Nat}(ha:a<1024):∀(l:List (Oper×Md)) {tm tm':TT} {H H':CH},wv P E all l tm H=.ok tm' H'→(∀p∈l,Lows all p.1∧p.1.dst≠some a)→tm'.get a=tm.get a:=by
 intro l
 induction l with
 |nil=>intro tm tm' H H' h _;cases(show RO.ok tm H=.ok tm' H' from h);rfl
 |cons p l ih=>
  intro tm tm' H H' h hp
  obtain⟨tm₁,H₁,h1,h2⟩:=zFt h
  rw[ih h2 (fun q hq=>hp q (by simp[hq])),zEJ h1 (hp p (by simp)).1 ha (hp p (by simp)).2]
theorem zDW(F:List (Oper×Md))(k:Nat)(I:List Nat):its F (k::I)=F.getD k dflt::its F I:=rfl
theorem its_sub{F:List (Oper×Md)}{I J:List Nat}(h:∀k∈I,k∈J):∀q∈its F I,q∈its F J:=by
 intro q hq
 obtain⟨m,hm,rfl⟩:=List.mem_map.1 hq
 exact List.mem_map.2 ⟨m,h m hm,rfl⟩
theorem run_ghost(hC:yi P E)(hD:zo P E)(hG:wl P E){ops:Array Oper}{F:List (Oper×Md)}(hR:Reg P ops F){φ₀:Phi}{H₀:CH}{w₀:World}(hb:Rel P φ₀ H₀ w₀):∀(I:List Nat) {φ:Phi} {H H':CH} {w:World} {tm tm':TT} {tmps:Array Value},
  Incr ops.size I→DInv P φ₀ H₀ w₀ (its F I) φ H w→TmR φ tm tmps→ops.toList.all (wF tmps.size)=true→wv P E ops.toList (its F I) tm H=.ok tm' H'→Later φ H H':=by
 intro I
 induction I with
 |nil=>
  intro φ H H' w tm tm' tmps _ _ _ _ h
  cases(show RO.ok tm H=.ok tm' H' from h)
  exact .of_agree rfl (fun _ _ _=>rfl)
 |cons k I ih=>
  intro φ H H' w tm tm' tmps hin hI htm hall h
  rw[zDW]at h
  obtain⟨tm₁,H₁,h1,h2⟩:=zFt h
  obtain⟨hpw,hlt⟩:=hin
  have hk:=hlt k (by simp)
  obtain⟨dk,e1,e2⟩:=hR.at' k ops[k] (by simp[hk])
  have hk1:=List.pairwise_cons.1 hpw
  have hkeep:Keeps (F.getD k dflt) (its F I):=zGA hR hk (fun m hm=>⟨hlt m (by simp[hm]),Nat.ne_of_gt (hk1.1 m hm),fun hlt'=>absurd hlt' (Nat.not_lt.2 (Nat.le_of_lt (hk1.1 m hm)))⟩)
  obtain⟨φ',w',tmps',g1,g2,g3,g4,g5⟩:=zEn hC hD hG hb hI (p:=F.getD k dflt) (l':=its F I) (by rw[zDW];simp) (its_sub (fun m hm=>by simp[hm])) hkeep htm hall (i:=k) (by rw[e1];simp[hk]) h1
  exact g3.trans g2 (ih ⟨hk1.2,fun m hm=>hlt m (by simp[hm])⟩ g1 g4 (by rw[g5];exact hall) h2)
theorem swap_step(hC:yi P E)(hD:zo P E)(hG:wl P E){φ₀:Phi}{H₀:CH}{w₀:World}{l:List (Oper×Md)}(hI:DInv P φ₀ H₀ w₀ l φ H w){p q:Oper×Md}(hp:p∈l)(hq:q∈l)
  {all:List Oper} {tm:TT} {tmps:Array Value} (htm:TmR φ tm tmps) (hokp:wF tmps.size p.1=true) (hokq:wF tmps.size q.1=true) (hlp:Lows all p.1) (hlq:Lows all q.1)
  (f1:∀d,p.1.dst=some d→d ∉ wT all q.1) (f2:∀d,q.1.dst=some d→d ∉ wT all p.1) {H₁ H₂:CH} {tm₁ tm₂:TT}
  (h1:yN P E all p tm H=.ok tm₁ H₁) (h2:yN P E all q tm₁ H₁=.ok tm₂ H₂) (hsw:Swaps tm H₂ p q):
  ∃tm₁' H₁',yN P E all q tm H=.ok tm₁' H₁'∧yN P E all p tm₁' H₁'=.ok tm₂ H₂:=by
 have hdp:∀i,p.1.dst=some i→i<1024∧i ∉ wT all q.1:=fun i hi=>⟨hlp.1 i hi,f1 i hi⟩
 have hdq:∀i,q.1.dst=some i→i<1024∧i ∉ wT all p.1:=fun i hi=>⟨hlq.1 i hi,f2 i hi⟩
 have hne:∀i,p.1.dst=some i→q.1.dst≠some i:=by
  intro i hi hqi
  refine f1 i hi ?_
  unfold wT
  simp only[List.mem_append]
  exact .inl (.inl (by rw[hqi];simp))
 have comm:∀x y,setT (setT tm p.1.dst x) q.1.dst y=setT (setT tm q.1.dst y) p.1.dst x:=fun x y=>
  setT_comm y x tm (fun i hi=>hlq.1 i hi) (fun i hi=>hlp.1 i hi) (fun i hi hpi=>hne i hpi hi)
 rcases zGQ h1 with ⟨w1,vp,d1,rfl⟩|⟨w1,rfl,rfl⟩
 ·rcases zGQ h2 with ⟨w2,vq,d2,rfl⟩|⟨w2,rfl,rfl⟩
  ·rw[zAr hlq hdp]at w2
   rw[zDY hlq hdp]at d2
   obtain⟨J,d3,d4⟩:=swap_op hC hD hG hI hp hq htm hokp hokq d1 d2 hsw
   refine⟨_,J,step_go w2 d3,?_⟩
   rw[comm]
   refine step_go (by rw[zAr hlp hdq];exact w1) (by rw[zDY hlp hdq];exact d4)
  ·rw[zAr hlq hdp]at w2
   refine⟨_,H,zEI w2,?_⟩
   rw[comm]
   exact step_go (by rw[zAr hlp hdq];exact w1) (by rw[zDY hlp hdq];exact d1)
 ·rcases zGQ h2 with ⟨w2,vq,d2,rfl⟩|⟨w2,rfl,rfl⟩
  ·rw[zAr hlq hdp]at w2
   rw[zDY hlq hdp]at d2
   refine⟨_,H₂,step_go w2 d2,?_⟩
   rw[comm]
   exact zEI (by rw[zAr hlp hdq];exact w1)
  ·rw[zAr hlq hdp]at w2
   refine⟨_,H₂,zEI w2,?_⟩
   rw[comm]
   exact zEI (by rw[zAr hlp hdq];exact w1)
end Vam
namespace Vam
open Go
variable {P:Program}{φ:Phi}{H H' K:CH}{w:World}{v:V}{E:Ev}
theorem apart1_ok{tm:TT}{a b:Nat}(h:zEj tm H (a,b)=true):∃b₁ o₁ b₂ o₂,tm.get a=.ptr b₁ o₁∧tm.get b=.ptr b₂ o₂∧b₁≠b₂∧∃x,H.get b₁=some x∧∀cs e sh,x≠.cells cs e 2 sh:=by
 unfold zEj at h
 obtain⟨b₁,o₁,e1,h1⟩:=wg (no:=false) h (by simp)
 obtain⟨b₂,o₂,e2,h2⟩:=wg (no:=false) h1 (by simp)
 obtain⟨h3,h4⟩:=zAo (no:=false) h2 (by simp)
 have hne:b₁≠b₂:=fun hb=>by rw[hb,show Nat.beq b₂.num b₂.num=true from Nat.beq_refl _]at h3;cases h3
 cases hg:H.get b₁ with
 |none=>rw[hg]at h4;cases h4
 |some x=>
  rw[hg]at h4
  cases x with
  |cells cs e st sh=>
   have h4:cond (Nat.beq st 2) false true=true:=h4
   obtain⟨h5,_⟩:=zAo (no:=false) h4 (by simp)
   exact⟨b₁,o₁,b₂,o₂,e1,e2,hne,_,hg,fun _ _ _ hst=>by cases hst;cases h5⟩
  |arg cs=>exact⟨b₁,o₁,b₂,o₂,e1,e2,hne,_,hg,fun _ _ _ hst=>by cases hst⟩
  |_=>cases h4
theorem fixed_ok{ops:List Oper}{a y k:Nat}{o:Oper}(h:zCJ ops a y=true)(ho:ops[k]? =some o)(hd:o.dst=some a):k<y∧wL ops k y=true:=by
 unfold zCJ at h
 have:=List.all_eq_true.1 h (o,k) (List.mem_zipIdx_iff_getElem?.2 ho)
 have this:(!(o.dst==some a)||(Nat.blt k y&&wL ops k y))=true:=this
 rw[hd]at this
 simp only[BEq.rfl,Bool.not_true,Bool.false_or]at this
 obtain⟨h1,h2⟩:=Bool.and_eq_true_iff.1 this
 exact⟨yu h1,h2⟩
def Apart(ops:List Oper)(tm:TT)(H:CH):Prop:=∀i j oi oj p,i<j→ops[i]? =some oi→ops[j]? =some oj→wL ops i j=false→zEQ oi.op oj.op=some p→zEj tm H p=true
theorem Incr.sub{n:Nat}{I J:List Nat}(h:Incr n J)(hs:List.Sublist I J):Incr n I:=⟨h.1.sublist hs,fun k hk=>h.2 k (hs.subset hk)⟩
theorem bubble(hC:yi P E)(hD:zo P E)(hG:wl P E){ops:Array Oper}{F:List (Oper×Md)}(hR:Reg P ops F){φ₀:Phi}{H₀:CH}{w₀:World}(hb:Rel P φ₀ H₀ w₀){tm':TT}(hfin:Apart ops.toList tm' H')(j:Nat)(I₂:List Nat):
  ∀(I₁:List Nat) {φ:Phi} {H:CH} {w:World} {tm:TT} {tmps:Array Value},Incr ops.size (I₁++j::I₂)→(∀i∈I₁,wL ops.toList i j=false)→DInv P φ₀ H₀ w₀ (its F (I₁++j::I₂)) φ H w→TmR φ tm tmps→
   ops.toList.all (wF tmps.size)=true→wv P E ops.toList (its F (I₁++j::I₂)) tm H=.ok tm' H'→
   ∃tm₁ H₁,yN P E ops.toList (F.getD j dflt) tm H=.ok tm₁ H₁∧wv P E ops.toList (its F (I₁++I₂)) tm₁ H₁=.ok tm' H':=by
 intro I₁
 induction I₁ with
 |nil=>
  intro φ H w tm tmps _ _ _ _ _ h
  exact zFt (by rw[List.nil_append,zDW]at h;exact h)
 |cons i I₁ ih=>
  intro φ H w tm tmps hin hno hI htm hall h
  have hin':Incr ops.size (I₁++j::I₂):=hin.sub (by simp)
  have hin'':Incr ops.size (I₁++I₂):=hin'.sub (by simp)
  rw[List.cons_append,zDW]at h
  obtain⟨tmi,Hi,h1,h2⟩:=zFt h
  have hpw:=List.pairwise_cons.1 (show(i::(I₁++j::I₂)).Pairwise (· < ·)from hin.1)
  have hi:i<ops.size:=hin.2 i (by simp)
  have hj:j<ops.size:=hin.2 j (by simp)
  have hij:i<j:=hpw.1 j (by simp)
  have hnoij:wL ops.toList i j=false:=hno i (by simp)
  have goi:ops.toList[i]? =some ops[i]:=by simp[hi]
  have goj:ops.toList[j]? =some ops[j]:=by simp[hj]
  obtain⟨di,e1,e2⟩:=hR.at' i ops[i] (by simp[hi])
  obtain⟨dj,e3,e4⟩:=hR.at' j ops[j] (by simp[hj])
  have mi:F.getD i dflt∈its F (i::I₁++j::I₂):=by rw[List.cons_append,zDW];simp
  have mj:F.getD j dflt∈its F (i::I₁++j::I₂):=List.mem_map.2 ⟨j,by simp,rfl⟩
  have mj':F.getD j dflt∈its F (I₁++j::I₂):=List.mem_map.2 ⟨j,by simp,rfl⟩
  have keepi:Keeps (F.getD i dflt) (its F (I₁++j::I₂)):=zGA hR hi (fun m hm=>⟨hin'.2 m hm,Nat.ne_of_gt (hpw.1 m hm),fun hlt=>absurd hlt (Nat.not_lt.2 (Nat.le_of_lt (hpw.1 m hm)))⟩)
  obtain⟨φi,wi,tmpsi,g1,g2,g3,g4,g5⟩:=zEn hC hD hG hb hI mi (its_sub (fun m hm=>by simp at hm ⊢;exact .inr hm)) keepi htm hall (i:=i) (by rw[e1];simp[hi]) h1
  have hall':ops.toList.all (wF tmpsi.size)=true:=by rw[g5];exact hall
  obtain⟨tm₂,H₂,k1,k2⟩:=ih hin' (fun m hm=>hno m (by simp[hm])) g1 g4 hall' h2
  have keepj:Keeps (F.getD j dflt) (its F (I₁++I₂)):=by
   refine zGA hR hj (fun m hm=>?_)
   rcases List.mem_append.1 hm with hm|hm
   ·have hmj:m<j:=by
     have:=List.pairwise_append.1 hin'.1
     exact this.2.2 m hm j (by simp)
    exact⟨hin''.2 m (by simp[hm]),Nat.ne_of_lt hmj,fun _=>hno m (by simp[hm])⟩
   ·have hjm:j<m:=(List.pairwise_cons.1 (List.pairwise_append.1 hin'.1).2.1).1 m hm
    exact⟨hin''.2 m (by simp[hm]),Nat.ne_of_gt hjm,fun hlt=>absurd hlt (Nat.not_lt.2 (Nat.le_of_lt hjm))⟩
  obtain⟨φ₂,w₂,tmps₂,q1,q2,q3,q4,q5⟩:=zEn hC hD hG hb g1 mj' (its_sub (fun m hm=>by simp at hm ⊢;rcases hm with hm|hm;exact .inl hm;exact .inr (.inr hm))) keepj g4 hall' (i:=j) (by rw[e3];simp[hj]) k1
  have hlater:=run_ghost hC hD hG hR hb (I₁++I₂) hin'' q1 q4 (by rw[q5];exact hall') k2
  obtain⟨f1,f2,hbs⟩:=beside hR.ok hij goi goj e2 e4 hnoij
  have oki:wF tmps.size ops[i]=true:=List.all_eq_true.1 hall _ (by simp)
  have okj:wF tmps.size ops[j]=true:=List.all_eq_true.1 hall _ (by simp)
  have low:∀o∈ops.toList,Lows ops.toList o:=fun o ho=>lows htm.1 hall ho
  have hsw:Swaps tm H₂ (F.getD i dflt) (F.getD j dflt):=by
   rw[e1,e3]
   cases hbs with
   |coldL a b=>exact .coldL a b
   |coldR a b=>exact .coldR a b
   |preL a b _=>exact .preL a b
   |preR a b _=>exact .preR a b
   |readL ld a b=>exact .readL ld a b
   |readR ld a b=>exact .readR ld a b
   |lays a b c d=>
    refine .lays a b c d ?_
    refine hR.apart i j hi hj (Nat.ne_of_lt hij) a b ?_ ?_
    ·rw[e1];exact .inr c
    ·rw[e3];exact .inr d
   |layApp a args ts c d e=>exact .layApp a args ts c d e
   |appLay b args ts c d e=>exact .appLay b args ts c d e
   |places t a t' b y p1 p2 p3 p4 p5 p6=>
    have hap:=hfin i j _ _ (a,b) hij goi goj hnoij (by
     show zEQ ops[i].op ops[j].op=_
     rw[show ops[i].op=.load t (.tmp a)from p1,show ops[j].op=.store t' (.tmp b) y from p3];rfl)
    obtain⟨b₁,o₁,b₂,o₂,s1,s2,s3,xb,s4,s5⟩:=apart1_ok hap
    have haLow:a<1024:=(low ops[i] (by simp)).2 a (by
     unfold wT;simp only[List.mem_append]
     exact .inl (.inr (zDV.2 (by rw[show ops[i].op=.load t (.tmp a)from p1];simp[Op.operands]))))
    have hbLow:b<1024:=(low ops[j] (by simp)).2 b (by
     unfold wT;simp only[List.mem_append]
     exact .inl (.inr (zDV.2 (by rw[show ops[j].op=.store t' (.tmp b) y from p3];simp[Op.operands]))))
    have hdstA:∀k o,ops.toList[k]? =some o→i≤k→o.dst≠some a:=fun k o ho hk hd=>by
     have:=(fixed_ok p5 ho hd).1;omega
    have hdstB:∀k o,ops.toList[k]? =some o→(j≤k∨wL ops.toList k j=false)→o.dst≠some b:=fun k o ho hk hd=>by
     obtain⟨c1,c2⟩:=fixed_ok p6 ho hd
     rcases hk with hk|hk
     ·omega
     ·rw[hk]at c2;cases c2
    have restAt:∀p∈its F (I₁++I₂),∃m,ops.toList[m]? =some p.1∧i≤m∧(j≤m∨wL ops.toList m j=false):=by
     intro p hp
     obtain⟨m,hm,rfl⟩:=List.mem_map.1 hp
     have hm1:=hin''.2 m hm
     obtain⟨dm,e5,_⟩:=hR.at' m ops[m] (by simp[hm1])
     refine⟨m,by rw[e5];simp[hm1],?_,?_⟩
     ·have:=hpw.1 m (by rcases List.mem_append.1 hm with hm|hm<;>simp[hm]);omega
     ·rcases List.mem_append.1 hm with hm|hm
      ·exact .inr (hno m (by simp[hm]))
      ·have:=(List.pairwise_cons.1 (List.pairwise_append.1 hin'.1).2.1).1 m hm
       exact .inl (by omega)
    have lowp:∀p∈its F (I₁++I₂),Lows ops.toList p.1:=fun p hp=>by
     obtain⟨m,hm,_⟩:=restAt p hp
     exact low p.1 (List.mem_of_getElem? hm)
    have li:Lows ops.toList (F.getD i dflt).1:=by rw[e1];exact low ops[i] (by simp)
    have lj:Lows ops.toList (F.getD j dflt).1:=by rw[e3];exact low ops[j] (by simp)
    have hA:tm'.get a=tm.get a:=by
     rw[run_get haLow _ k2 (fun p hp=>⟨lowp p hp,by obtain⟨m,c1,c2,_⟩:=restAt p hp;exact hdstA m _ c1 c2⟩),
      zEJ k1 lj haLow (by rw[e3];exact hdstA j _ goj (Nat.le_of_lt hij)),
      zEJ h1 li haLow (by rw[e1];exact hdstA i _ goi (Nat.le_refl _))]
    have hB:tm'.get b=tm.get b:=by
     rw[run_get hbLow _ k2 (fun p hp=>⟨lowp p hp,by obtain⟨m,c1,_,c3⟩:=restAt p hp;exact hdstB m _ c1 c3⟩),
      zEJ k1 lj hbLow (by rw[e3];exact hdstB j _ goj (.inl (Nat.le_refl _))),
      zEJ h1 li hbLow (by rw[e1];exact hdstB i _ goi (.inr hnoij))]
    refine .places t a t' b y b₁ o₁ b₂ o₂ p1 p2 p3 p4 (hA ▸ s1) (hB ▸ s2) s3 ?_
    rintro⟨cs',e',sh',hdead⟩
    have hv:VR φ (tm.get a) _:=zAX (o:=.tmp a) (a:=⟨tmps,[]⟩) htm (List.all_eq_true.1 (Bool.and_eq_true_iff.1 oki).2 _ (by rw[show ops[i].op=.load t (.tmp a)from p1];simp[Op.operands]))
    rw[←hA,s1]at hv
    have hdom:∃k,φ b₁=some k:=by
     generalize Act.eval _ (Operand.tmp a)=xa at hv
     cases hv with
     |ptr _ _ k hk=>exact⟨k,hk⟩
     |glob _=>exact absurd s4 (by intro h;have h0:=isOver_get h;cases h0)
    obtain⟨k,hk⟩:=hdom
    obtain⟨l1,l2⟩:=hlater
    obtain⟨cs3,e3',sh3,l3⟩:=(l2 b₁ k (q2 _ _ (g2 _ _ hk))).2.2 ⟨cs',e',sh',hdead⟩
    rw[s4]at l3
    exact s5 _ _ _ (Option.some.inj l3)
  obtain⟨tm₁,H₁,r1,r2⟩:=swap_step hC hD hG hI mi mj htm (by rw[e1];exact oki) (by rw[e3];exact okj) (by rw[e1];exact low _ (by simp)) (by rw[e3];exact low _ (by simp)) (by rw[e1,e3];exact f1) (by rw[e1,e3];exact f2) h1 k1 hsw
  refine⟨tm₁,H₁,r1,?_⟩
  rw[List.cons_append,zDW,run_cons' r2]
  exact k2
theorem any_sound(hC:yi P E)(hD:zo P E)(hG:wl P E){ops:Array Oper}{F:List (Oper×Md)}(hR:Reg P ops F){φ₀:Phi}{H₀:CH}{w₀:World}(hb:Rel P φ₀ H₀ w₀){tm':TT}(hfin:Apart ops.toList tm' H'){Q:Exit→Act→World→Prop}{r:Option Nat}{n:Nat}{df:List Deferred}
  (hq:∀a' φ' w',Rel P φ' H' w'→Ext φ₀ H₀ w₀ φ' H' w'→TmR φ' tm' a'.tmps→a'.tmps.size=n→a'.defers=df→Q .normal a' w'):
  ∀(m:Nat) (I:List Nat) {φ:Phi} {H:CH} {w:World} {tm:TT} {a:Act} {listed:Array Bool},I.length=m→Incr ops.size I→listed.size=ops.size→(∀k,k∈I↔listed.getD k true=false)→
   (∀k o,ops[k]? =some o→listed.getD k true=true→∀e∈o.after.toList,Region.binds .any e=true→listed.getD e.on true=true)→
   DInv P φ₀ H₀ w₀ (its F I) φ H w→TmR φ tm a.tmps→a.tmps.size=n→a.defers=df→ops.toList.all (wF n)=true→wv P E ops.toList (its F I) tm H=.ok tm' H'→wpAnyIn (wU r) 0 P .any ops Q m listed a w:=by
 intro m
 induction m with
 |zero=>
  intro I φ H w tm a listed hlen hin hsz hmem hcl hI htm hsize hdf hall h
  obtain rfl:=List.length_eq_zero_iff.1 hlen
  cases(show RO.ok tm H=.ok tm' H' from h)
  refine⟨?_,hq a φ w hI.rel hI.ext htm hsize hdf⟩
  rw[List.eq_nil_iff_forall_not_mem]
  intro k hk
  have:=(hmem k).2 (mem_ready.1 hk).1
  cases this
 |succ m ih=>
  intro I φ H w tm a listed hlen hin hsz hmem hcl hI htm hsize hdf hall h
  refine⟨?_,?_⟩
  ·
   intro hr
   exfalso
   cases I with
   |nil=>cases hlen
   |cons k I=>
    have hk:=hin.2 k (by simp)
    have:k∈Region.ready .any ops listed:=by
     refine mem_ready.2 ⟨(hmem k).1 (by simp),ops[k],by simp[hk],?_⟩
     intro e he hbe
     have hlt:=hR.ok.back k ops[k] (by simp[hk]) e (by simpa using he) hbe
     cases hc:listed.getD e.on false with
     |true=>rfl
     |false=>
      exfalso
      have hs:e.on<listed.size:=by rw[hsz];omega
      have:listed.getD e.on true=false:=by
       rw[Array.getD_eq_getD_getElem?]at hc ⊢
       rw[Array.getElem?_eq_getElem hs]at hc ⊢
       exact hc
      have hin2:=(hmem e.on).2 this
      rcases List.mem_cons.1 hin2 with h1|h1
      ·omega
      ·have:=(List.pairwise_cons.1 hin.1).1 _ h1;omega
    rw[hr]at this
    cases this
  ·intro j hj
   obtain⟨hjl,oj,hoj,hrd⟩:=mem_ready.1 hj
   have hjI:=(hmem j).2 hjl
   obtain⟨I₁,I₂,rfl⟩:=List.append_of_mem hjI
   have hjs:=hin.2 j hjI
   have goj:ops.toList[j]? =some oj:=by simpa using hoj
   have toTrue:∀k,listed.getD k false=true→listed.getD k true=true:=by
    intro k hk
    rw[Array.getD_eq_getD_getElem?]at hk ⊢
    cases hg:listed[k]? with
    |none=>rfl
    |some x=>rw[hg]at hk;exact hk
   have hno:∀i∈I₁,wL ops.toList i j=false:=by
    intro i hi
    cases ho:wL ops.toList i j with
    |false=>rfl
    |true=>
     exfalso
     have hij:i<j:=(List.pairwise_append.1 hin.1).2.2 i hi j (by simp)
     have:=zEw hR.ok (D:=fun k=>listed.getD k true=true) (fun k o hk hd=>hcl k o (by simpa using hk) hd) j oj goj (fun e he hbe=>toTrue _ (hrd e (by simpa using he) hbe)) i hij ho
     have h2:=(hmem i).1 (by simp[hi])
     rw[this]at h2;cases h2
   obtain⟨tm₁,H₁,b1,b2⟩:=bubble hC hD hG hR hb hfin j I₂ I₁ hin hno hI htm (by rw[hsize];exact hall) h
   obtain⟨dj,e3,e4⟩:=hR.at' j oj hoj
   have hkeep:Keeps (F.getD j dflt) (its F (I₁++I₂)):=by
    refine zGA hR hjs (fun k hk=>?_)
    rcases List.mem_append.1 hk with hk|hk
    ·exact⟨hin.2 k (by simp[hk]),Nat.ne_of_lt ((List.pairwise_append.1 hin.1).2.2 k hk j (by simp)),fun _=>hno k hk⟩
    ·have hjm:j<k:=(List.pairwise_cons.1 (List.pairwise_append.1 hin.1).2.1).1 k hk
     exact⟨hin.2 k (by simp[hk]),Nat.ne_of_gt hjm,fun hlt=>absurd hlt (Nat.not_lt.2 (Nat.le_of_lt hjm))⟩
   refine step_wp hC hD hG hb hI (p:=F.getD j dflt) (l':=its F (I₁++I₂)) (List.mem_map.2 ⟨j,by simp,rfl⟩) (its_sub (fun k hk=>by simp at hk ⊢;rcases hk with hk|hk;exact .inl hk;exact .inr (.inr hk))) hkeep htm (by rw[hsize];exact hall) (i:=j) (by rw[e3];exact hoj) b1 ?_
   intro a' φ' w' k1 k2 k3 k4 k5 k6
   have hnd:(I₁++j::I₂).Nodup:=hin.1.imp (fun h=>Nat.ne_of_lt h)
   have hgetset:∀k,(listed.setIfInBounds j true).getD k true=if k=j then true else listed.getD k true:=by
    intro k
    by_cases hkj:k=j
    ·subst hkj
     rw[if_pos rfl,Array.getD_eq_getD_getElem?,Array.getElem?_setIfInBounds_self]
     split<;>rfl
    ·rw[if_neg hkj,Array.getD_eq_getD_getElem?,Array.getElem?_setIfInBounds_ne (Ne.symm hkj),Array.getD_eq_getD_getElem?]
   refine ih (I₁++I₂) (by simp at hlen ⊢;omega) (hin.sub (by simp)) (by simp[hsz]) ?_ ?_ k1 k4 (k5.trans hsize) (k6.trans hdf) hall b2
   ·intro k
    rw[hgetset]
    by_cases hkj:k=j
    ·subst hkj
     rw[if_pos rfl]
     constructor
     ·intro hk
      exfalso
      rw[List.nodup_append]at hnd
      rcases List.mem_append.1 hk with hk|hk
      ·exact hnd.2.2 k hk k (by simp) rfl
      ·exact(List.nodup_cons.1 hnd.2.1).1 hk
     ·intro hk;cases hk
    ·rw[if_neg hkj,←hmem k]
     simp[hkj]
   ·intro k o hk hl e he hbe
    rw[hgetset]
    by_cases hej:e.on=j
    ·rw[if_pos hej]
    ·rw[if_neg hej]
     rw[hgetset]at hl
     by_cases hkj:k=j
     ·subst hkj
      rw[hoj]at hk;cases hk
      exact toTrue _ (hrd e (by simpa using he) hbe)
     ·rw[if_neg hkj]at hl
      exact hcl k o hk hl e he hbe
end Vam
namespace Vam
open Go
variable {P:Program}{φ:Phi}{H H' K:CH}{w:World}{v:V}{E:Ev}
theorem apartB_ok:∀{ps:List (Nat×Nat)} {r:RO} {tm':TT},zHp ps r=.ok tm' H'→r=.ok tm' H'∧∀p∈ps,zEj tm' H' p=true:=by
 intro ps r tm' h
 cases r with
 |no=>cases h
 |ok tm J=>
  have h:List.rec (motive:=fun _=>RO) (.ok tm J) (fun p _ ih=>cond (zEj tm J p) ih .no) ps=.ok tm' H':=h
  have key:∀ps:List (Nat×Nat),List.rec (motive:=fun _=>RO) (.ok tm J) (fun p _ ih=>cond (zEj tm J p) ih .no) ps=.ok tm' H'→RO.ok tm J=.ok tm' H'∧∀p∈ps,zEj tm J p=true:=by
   intro ps
   induction ps with
   |nil=>intro h;exact⟨h,fun p hp=>by cases hp⟩
   |cons p ps ih=>
    intro h
    obtain⟨h1,h2⟩:=zH (no:=RO.no) (show cond (zEj tm J p) _ RO.no=.ok tm' H' from h) (by intro e;cases e)
    obtain⟨h3,h4⟩:=ih h2
    exact⟨h3,fun q hq=>by rcases List.mem_cons.1 hq with rfl|hq;exact h1;exact h4 q hq⟩
  obtain⟨h1,h2⟩:=key ps h
  cases h1
  exact⟨rfl,h2⟩
theorem its_range(F:List (Oper×Md)):its F (List.range F.length)=F:=by
 apply List.ext_getElem
 ·simp[its]
 ·intro i h1 h2
  simp[its,h2]
theorem draw_sound(hm:P.follows .mixedOrders=true)(hC:yi P E)(hD:zo P E)(hG:wl P E):SoundDraw P E:=by
 intro id ops tm tm' ds H H' φ w a r h htm hds hall hdraw hr
 have hr:RS.rec (motive:=fun _=>RO) .no (fun l H=>zHp (zCZ ops.toList) (wv P E ops.toList l tm H)) (resv P (drawn P ops.toList) H)=.ok tm' H':=hr
 cases hres:resv P (drawn P ops.toList) H with
 |no=>rw[hres]at hr;cases hr
 |ok F H₁=>
  rw[hres]at hr
  obtain⟨hrun,hap⟩:=apartB_ok (show zHp (zCZ ops.toList) (wv P E ops.toList F tm H₁)=.ok tm' H' from hr)
  have hI:=resv_ok _ h.nok hres
  have hdr:=drawOk hdraw
  have hlenF:F.length=ops.size:=by rw[hI.rr.len];simp[drawn]
  have hat:∀k o,ops[k]? =some o→∃d,F.getD k dflt=(o,d)∧MdOf (wa P ops.toList k o) d:=by
   intro k o ho
   have hk:(drawn P ops.toList)[k]? =some (o,wa P ops.toList k o):=by
    unfold drawn
    rw[List.getElem?_map,List.getElem?_zipIdx]
    simp[ho]
   obtain⟨d,h1,h2⟩:=hI.rr.get hk
   exact⟨d,by rw[List.getD_eq_getElem?_getD,h1];rfl,h2⟩
  have hR:Reg P ops F:=by
   refine⟨hdr,hat,hlenF,?_⟩
   have key:∀i j,i<ops.size→j<ops.size→i<j→∀a b,zFk (F.getD i dflt) a→zFk (F.getD j dflt) b→a≠b:=by
    intro i j hi hj hij a b ha hb
    have hi':i<F.length:=by omega
    have hj':j<F.length:=by omega
    rw[List.getD_eq_getElem?_getD,List.getElem?_eq_getElem hi']at ha
    rw[List.getD_eq_getElem?_getD,List.getElem?_eq_getElem hj']at hb
    exact List.pairwise_iff_getElem.1 hI.apart i j hi' hj' hij a b ha hb
   intro i j hi hj hij a b ha hb
   rcases Nat.lt_or_gt_of_ne hij with h1|h1
   ·exact key i j hi hj h1 a b ha hb
   ·exact(key j i hj hi h1 b a hb ha).symm
  have hfin:Apart ops.toList tm' H':=by
   intro i j oi oj p hij hi hj hno hp
   refine hap p ?_
   unfold zCZ
   rw[List.mem_flatMap]
   refine⟨(oj,j),List.mem_zipIdx_iff_getElem?.2 hj,?_⟩
   rw[List.mem_filterMap]
   refine⟨(oi,i),List.mem_zipIdx_iff_getElem?.2 (by rw[List.getElem?_take,if_pos hij];exact hi),?_⟩
   simp only[hno]
   exact hp
  have hrel:Rel P φ H₁ {w with drawn:=w.drawn+1}:=by
   have h2:Rel P φ H₁ w:=h.like' hI.nok hI.bef (fun b k hb=>hI.get b (h.wf b k hb).1 (h.wf b k hb).2.1)
   exact⟨⟨h2.nok,h2.wf,h2.blk,h2.sep⟩,h2.gl⟩
  have hwr:∀b,b.wf→Before b H.n→WrAt H₁ b→WrAt H b:=by
   rintro b hb hbn ⟨h1,x,h2,h3⟩
   rw[hI.get b hb hbn]at h2
   exact⟨by rw[←hI.fz];exact h1,x,h2,h3⟩
  have hext:Ext φ H w φ H₁ {w with drawn:=w.drawn+1}:=
   ⟨Phi.le_refl _,hI.fz,fun b k h1 h2=>by(rw[h2]at h1;cases h1),hI.bef,fun b k h1 h2=>by(rw[h2]at h1;cases h1),fun _ _ _=>rfl,fun b hb hbw hw hw'=>hw (hwr b hbw hb hw'),fun b hb hbw _=>hI.get b hbw hb,Nat.le_refl _,rfl,rfl,rfl,fun _=>rfl,fun b hb hbw hd=>by
   obtain⟨cs,e,sh,hd⟩:=hd
   exact⟨cs,e,sh,by rw[hI.get b hbw hb];exact hd⟩⟩
  have hmemF:∀p∈F,∃k,∃o,ops[k]? =some o∧F.getD k dflt=p:=by
   intro p hp
   obtain⟨k,hk,hkp⟩:=List.mem_iff_getElem.1 hp
   have hk':k<ops.size:=by omega
   exact⟨k,ops[k],by simp[hk'],by rw[List.getD_eq_getElem?_getD,List.getElem?_eq_getElem hk,hkp];rfl⟩
  have hInv:DInv P φ H w F φ H₁ {w with drawn:=w.drawn+1}:=by
   refine⟨hrel,hext,?_,hI.pre,?_,?_⟩
   ·intro p hp i hi
    obtain⟨q1,q2,q3⟩:=hI.ids p hp i hi
    refine⟨q1,q2,q3,?_⟩
    cases hx:φ i with
    |none=>rfl
    |some k=>exact absurd (h.wf i k hx).2.1 q3
   ·intro p hp i hi
    obtain⟨k,o,ho,rfl⟩:=hmemF p hp
    obtain⟨d,e1,e2⟩:=hat k o ho
    rw[e1]at hi ⊢
    cases(show d=.lay i from hi)
    have hmode:wa P ops.toList k o=.lay:=by
     generalize wa P ops.toList k o=x at e2
     cases e2;rfl
    exact mode_lay hmode
   ·intro p hp ld hld
    obtain⟨k,o,ho,rfl⟩:=hmemF p hp
    obtain⟨d,e1,e2⟩:=hat k o ho
    rw[e1]at hld ⊢
    cases(show d=.read ld from hld)
    have hmode:wa P ops.toList k o=.read ld:=by
     generalize wa P ops.toList k o=x at e2
     cases e2;rfl
    exact mode_read hmode
  refine wpIn_region_any hm ?_
  have hits:its F (List.range ops.size)=F:=by rw[←hlenF];exact its_range F
  have hget:∀k,(Array.replicate ops.size false).getD k true=if k<ops.size then false else true:=by
   intro k
   rw[Array.getD_eq_getD_getElem?,Array.getElem?_replicate]
   split<;>rfl
  refine any_sound hC hD hG hR h hfin (n:=a.tmps.size) (df:=a.defers) ?_ ops.size (List.range ops.size) (by simp) ⟨List.pairwise_lt_range,fun k hk=>by simpa using hk⟩ (by simp) ?_ ?_ (by rw[hits];exact hInv) htm rfl rfl hall (by rw[hits];exact hrun)
  ·intro a' φ' w' q1 q2 q3 q4 q5
   exact⟨rfl,φ',q1,q2,q3,q4,by rw[q5];exact hds.mono q2.le⟩
  ·intro k
   rw[hget]
   by_cases hk:k<ops.size<;>simp[hk]
  ·intro k o ho hl
   exfalso
   have hk:k<ops.size:=(Array.getElem?_eq_some_iff.1 ho).1
   rw[hget,if_pos hk]at hl
   cases hl
end Vam
