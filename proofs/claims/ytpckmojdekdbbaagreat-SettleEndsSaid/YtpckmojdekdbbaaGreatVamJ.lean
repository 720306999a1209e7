import Derived.Test.YtpckmojdekdbbaaGreatVamI
set_option linter.unusedVariables false
set_option linter.unusedSimpArgs false
namespace Vam
open Go
inductive Kd where
 |ro|full|own
inductive U where
 |bool (b:Bool)
 |int (k:IntKind) (n:Int)
 |str (s:List Nat)
 |nilp
 |box (a off:Nat)
 |sl (a off len z:Nat)
 |eref (cs:List U) (off:Nat)
 |lst (k:Kd) (z:Nat) (es:List U)
 |mp (a:Nat)
 |nilm
 |fn (f:Nat) (a b:List U)
 |nilf
 |yld (a:Nat)
 |agg (cs:List U)
 |tup (cs:List U)
 |junk
def zx(u:U):List U:=match u with| .agg cs=>cs|u=>[u]
def yW(es:List U):List U:=es.flatMap zx
inductive VX where
 |v (x:V)
 |l (xs:List V)
inductive UX where
 |u (x:U)
 |l (xs:List U)
abbrev BMap:=Nat→Option Id
abbrev SMap:=Id→Option (List V)
def KdOk(k:Kd)(off len cc sz:Nat)(l:List V):Prop:=
 off≤l.length∧len≤capN cc∧match k with
 | .ro=>True
 | .full=>capE cc=true∧capN cc=len
 | .own=>(capE cc=true∧capN cc=len)∨(capE cc=false∧capN cc=len∧off=0∧l.length=len*sz∧0<len)
theorem over_kd{k:Kd}{off cc sz:Nat}{l:List V}(h:KdOk k off 0 cc sz l):k=.ro∨cc=capX 0:=by
 have key:capE cc=true→capN cc=0→cc=capX 0:=fun h1 h2=>by
  have h1:cc % 2=1:=Nat.eq_of_beq_eq_true h1
  have h2:cc / 2=0:=h2
  show cc=1;omega
 cases k with
 |ro=>exact .inl rfl
 |full=>exact .inr (key h.2.2.1 h.2.2.2)
 |own=>
  rcases h.2.2 with h1|h1
  ·exact .inr (key h1.1 h1.2)
  ·exact absurd h1.2.2.2.2 (Nat.lt_irrefl _)
inductive UR(φ:BMap)(S:SMap):VX→UX→Prop where
 |junk (v:V):UR φ S (.v v) (.u .junk)
 |bool (b:Bool):UR φ S (.v (.bool b)) (.u (.bool b))
 |int (k:IntKind) (n:Int):UR φ S (.v (.int k n)) (.u (.int k n))
 |str (s:List Nat):UR φ S (.v (.str s)) (.u (.str s))
 |nilp:UR φ S (.v .nilp) (.u .nilp)
 |box (a:Nat) (b:Id) (off:Nat):φ a=some b→UR φ S (.v (.ptr b off)) (.u (.box a off))
 |eref (b:Id) (l l1 l2:List V) (p:Nat) (cs:List U) (off:Nat):S b=some l→l.drop p=l1++l2→UR φ S (.l l1) (.l cs)→UR φ S (.v (.ptr b (p+off))) (.u (.eref cs off))
 |sl (a:Nat) (b:Id) (off len cc sz:Nat):φ a=some b→len≤capN cc→0<sz→UR φ S (.v (.slice b off len cc sz)) (.u (.sl a off len sz))
 |nils (k:Kd) (z:Nat):UR φ S (.v .nils) (.u (.lst k z []))
 |over (k:Kd) (sz cc:Nat):0<sz→(k=.ro∨cc=capX 0)→UR φ S (.v (.slice .over 0 0 cc sz)) (.u (.lst k sz []))
 |slice (b:Id) (off len cc sz:Nat) (l l1 l2:List V) (k:Kd) (es:List U):S b=some l→l.drop off=l1++l2→UR φ S (.l l1) (.l (yW es))→
   (∀e∈es,(zx e).length=sz)→es.length=len→KdOk k off len cc sz l→0<sz→UR φ S (.v (.slice b off len cc sz)) (.u (.lst k sz es))
 |mp (a:Nat) (b:Id):φ a=some b→UR φ S (.v (.map b)) (.u (.mp a))
 |nilm:UR φ S (.v .nilm) (.u .nilm)
 |fn (f:Nat) (A B:List V) (a b:List U):UR φ S (.l A) (.l a)→UR φ S (.l B) (.l b)→UR φ S (.v (.func f (zF A) (zF B))) (.u (.fn f a b))
 |nilf:UR φ S (.v .nilf) (.u .nilf)
 |yld (a:Nat) (b:Id):φ a=some b→UR φ S (.v (.yield b)) (.u (.yld a))
 |agg (l:List V) (cs:List U):UR φ S (.l l) (.l cs)→UR φ S (.v (.agg (zF l))) (.u (.agg cs))
 |tup (l:List V) (cs:List U):UR φ S (.l l) (.l cs)→UR φ S (.v (.tup (zF l))) (.u (.tup cs))
 |nil:UR φ S (.l []) (.l [])
 |cons (x:V) (l:List V) (u:U) (us:List U):UR φ S (.v x) (.u u)→UR φ S (.l l) (.l us)→UR φ S (.l (x::l)) (.l (u::us))
abbrev VU(φ:BMap)(S:SMap)(v:V)(u:U):Prop:=UR φ S (.v v) (.u u)
abbrev LU(φ:BMap)(S:SMap)(l:List V)(us:List U):Prop:=UR φ S (.l l) (.l us)
def BMap.le(φ ψ:BMap):Prop:=∀a b,φ a=some b→ψ a=some b
def SMap.le(S R:SMap):Prop:=∀b l,S b=some l→R b=some l
theorem BMap.le_refl(φ:BMap):φ.le φ:=fun _ _ h=>h
theorem SMap.le_refl(S:SMap):S.le S:=fun _ _ h=>h
theorem BMap.le_trans{φ ψ χ:BMap}(h:φ.le ψ)(k:ψ.le χ):φ.le χ:=fun a b e=>k a b (h a b e)
theorem SMap.le_trans{S R Q:SMap}(h:S.le R)(k:R.le Q):S.le Q:=fun a b e=>k a b (h a b e)
variable {φ ψ:BMap}{S R:SMap}
theorem UR.mono(h1:φ.le ψ)(h2:S.le R){v:VX}{u:UX}(h:UR φ S v u):UR ψ R v u:=by
 induction h with
 |junk v=>exact .junk v
 |bool b=>exact .bool b
 |int k n=>exact .int k n
 |str s=>exact .str s
 |nilp=>exact .nilp
 |box a b off hk=>exact .box a b off (h1 _ _ hk)
 |sl a b off len cc sz hk hc h0=>exact .sl a b off len cc sz (h1 _ _ hk) hc h0
 |eref b l l1 l2 p cs off hb hd _ ih=>exact .eref b l l1 l2 p cs off (h2 _ _ hb) hd ih
 |nils k z=>exact .nils k z
 |over k sz cc h0 hk=>exact .over k sz cc h0 hk
 |slice b off len cc sz l l1 l2 k es hb hd _ he hl hk h0 ih=>exact .slice b off len cc sz l l1 l2 k es (h2 _ _ hb) hd ih he hl hk h0
 |mp a b hk=>exact .mp a b (h1 _ _ hk)
 |nilm=>exact .nilm
 |fn f A B a b _ _ iha ihb=>exact .fn f A B a b iha ihb
 |nilf=>exact .nilf
 |yld a b hk=>exact .yld a b (h1 _ _ hk)
 |agg l cs _ ih=>exact .agg l cs ih
 |tup l cs _ ih=>exact .tup l cs ih
 |nil=>exact .nil
 |cons x l u us _ _ ih1 ih2=>exact .cons x l u us ih1 ih2
theorem LU.len{l:List V}{us:List U}(h:LU φ S l us):l.length=us.length:=by
 induction us generalizing l with
 |nil=>cases h;rfl
 |cons u us ih=>cases h with|cons x l _ _ _ h2=>simp[ih h2]
theorem LU.get{l:List V}{us:List U}(h:LU φ S l us){i:Nat}{u:U}(hu:us[i]? =some u):∃v,l[i]? =some v∧VU φ S v u:=by
 induction us generalizing l i with
 |nil=>simp at hu
 |cons x us ih=>
  cases h with
  |cons y l _ _ h1 h2=>
   cases i with
   |zero=>simp at hu;subst hu;exact⟨y,by simp,h1⟩
   |succ i=>simp at hu;obtain⟨v,e,h3⟩:=ih h2 hu;exact⟨v,by simpa using e,h3⟩
theorem LU.drop{l:List V}{us:List U}(h:LU φ S l us)(n:Nat):LU φ S (l.drop n) (us.drop n):=by
 induction n generalizing l us with
 |zero=>simpa using h
 |succ n ih=>cases us with
  |nil=>cases h;exact .nil
  |cons u us=>cases h with|cons x l _ _ _ h2=>simpa using ih h2
theorem LU.take{l:List V}{us:List U}(h:LU φ S l us)(n:Nat):LU φ S (l.take n) (us.take n):=by
 induction n generalizing l us with
 |zero=>simp;exact .nil
 |succ n ih=>cases us with
  |nil=>cases h;exact .nil
  |cons u us=>cases h with|cons x l _ _ h1 h2=>simp;exact .cons _ _ _ _ h1 (ih h2)
theorem LU.append{l m:List V}{us ws:List U}(h:LU φ S l us)(k:LU φ S m ws):LU φ S (l++m) (us++ws):=by
 induction us generalizing l with
 |nil=>cases h;exact k
 |cons u us ih=>cases h with|cons x l _ _ h1 h2=>exact .cons _ _ _ _ h1 (ih h2)
theorem LU.split{l:List V}{us ws:List U}(h:LU φ S l (us++ws)):∃l1 l2,l=l1++l2∧LU φ S l1 us∧LU φ S l2 ws:=by
 induction us generalizing l with
 |nil=>exact⟨[],l,rfl,.nil,h⟩
 |cons u us ih=>
  cases h with
  |cons x l _ _ h1 h2=>
   obtain⟨l1,l2,rfl,a,b⟩:=ih h2
   exact⟨x::l1,l2,rfl,.cons _ _ _ _ h1 a,b⟩
theorem LU.set{l:List V}{us:List U}(h:LU φ S l us)(n:Nat){v:V}{u:U}(hv:VU φ S v u):LU φ S (l.set n v) (us.set n u):=by
 induction us generalizing l n with
 |nil=>cases h;simpa using .nil
 |cons x us ih=>cases h with
  |cons y l _ _ h1 h2=>cases n with
   |zero=>simp;exact .cons _ _ _ _ hv h2
   |succ n=>simp;exact .cons _ _ _ _ h1 (ih h2 n)
theorem zBV(l:List V)(n:Nat):lenV (zF l) n=l.length+n:=by
 induction l generalizing n with
 |nil=>show n=_;simp
 |cons x l ih=>show lenV (zF l) (Nat.succ n)=_;rw[ih];simp;omega
theorem nthV_of(l:List V)(n:Nat):nthV (zF l) n=l[n]? :=by
 induction l generalizing n with
 |nil=>simp;rfl
 |cons x l ih=>cases n with
  |zero=>simp;rfl
  |succ n=>show nthV (zF l) n=_;rw[ih];simp
theorem dropV_of(l:List V)(n:Nat):zDy (zF l) n=zF (l.drop n):=by
 induction l generalizing n with
 |nil=>simp;rfl
 |cons x l ih=>cases n with
  |zero=>rfl
  |succ n=>show zDy (zF l) n=_;rw[ih];simp
theorem takeV_of(n:Nat)(l:List V):zEm n (zF l)=if n≤l.length then some (zF (l.take n))else none:=by
 induction n generalizing l with
 |zero=>simp;rfl
 |succ n ih=>cases l with
  |nil=>simp;rfl
  |cons x l=>
   show opt none (fun r=>some (V.cons x r)) (zEm n (zF l))=_
   rw[ih]
   by_cases h:n≤l.length
   ·rw[if_pos h,if_pos (by simpa using h)];rfl
   ·rw[if_neg h,if_neg (by simpa using h)];rfl
theorem zED(l m:List V):appV (zF l) (zF m)=zF (l++m):=by
 induction l with
 |nil=>rfl
 |cons x l ih=>show V.cons x (appV (zF l) (zF m))=_;rw[ih];rfl
theorem putV_of(l:List V)(n:Nat)(vs:List V)(h:n+vs.length≤l.length):putV (zF l) n (zF vs)=some (zF (l.take n++vs++l.drop (n+vs.length))):=by
 induction l generalizing n vs with
 |nil=>
  have e1:n=0:=by simp at h;omega
  have e2:vs=[]:=by cases vs<;>simp at h ⊢
  subst e1;subst e2;rfl
 |cons x l ih=>
  cases n with
  |zero=>
   cases vs with
   |nil=>rfl
   |cons v vs=>
    show opt none (fun r=>some (V.cons v r)) (putV (zF l) 0 (zF vs))=_
    rw[ih 0 vs (by simp at h ⊢;omega)]
    simp[opt,zF]
  |succ n=>
   show opt none (fun r=>some (V.cons x r)) (putV (zF l) n (zF vs))=_
   rw[ih n vs (by simp at h ⊢;omega)]
   have e:n+1+vs.length=n+vs.length+1:=by omega
   simp[opt,zF,e]
def yU(v:V)(u:U):Option Id:=match u with
 | .lst .own _ _=>match v with
  | .slice b _ _ cc _=>if capE cc=true then none else some b
  |_=>none
 |_=>none
def dg(u:U):U:=match u with
 | .lst .own z es=>.lst .ro z es
 |u=>u
theorem VU.dg{v:V}{u:U}(h:VU φ S v u):VU φ S v (dg u):=by
 unfold Vam.dg
 split
 ·cases h with
  |nils=>exact .nils _ _
  |over _ _ _ h0 _=>exact .over _ _ _ h0 (.inl rfl)
  |slice b off len cc sz l l1 l2 k es hb hd hl he hn hk h0=>exact .slice b off len cc _ l l1 l2 _ _ hb hd hl he hn ⟨hk.1,hk.2.1,trivial⟩ h0
 ·exact h
theorem yk(v:V)(u:U):yU v (dg u)=none:=by
 unfold Vam.dg
 split
 ·rfl
 ·unfold yU
  split
  ·rename_i h;exact absurd rfl (h _ _)
  ·rfl
end Vam
namespace Vam
open Go
inductive Lo where
 |slot (i:Nat)
 |cell (a o:Nat)
inductive Lq where
 |ready|busy
 |done (e:Ex)
structure Lp where
 fr:Nat→U
 ps:List Nat
 assign:Code
 body:Code
inductive SB where
 |box (cs:List U)
 |froz (cs:List U)
 |map (es:List (U×U))
 |loop (q:Lq) (l:Lp)
 |dead
 |fmap (es:List (U×U))
structure St where
 fr:Nat→U
 al:List (Nat×Lo)
 st:List SB
def Lo.isSlot(d:Nat)(l:Lo):Bool:=match l with
 | .slot i=>Nat.beq i d
 |_=>false
noncomputable def zEY(f:Nat×Lo→Bool)(al:List (Nat×Lo)):List (Nat×Lo):=List.rec (motive:=fun _=>List (Nat×Lo)) [] (fun p _ ih=>cond (f p) (p::ih) ih) al
theorem zGm(f:Nat×Lo→Bool)(al:List (Nat×Lo)):zEY f al=al.filter f:=by
 induction al with
 |nil=>rfl
 |cons p l ih=>
  show cond (f p) (p::zEY f l) (zEY f l)=_
  rw[ih,List.filter_cons]
  cases f p<;>rfl
noncomputable def St.put(s:St)(d:Nat)(u:U):St:=⟨fun j=>cond (Nat.beq j d) u (s.fr j),zEY (fun p=> !(Nat.beq p.1 d)&& !(p.2.isSlot d)) s.al,s.st⟩
theorem beq_ne{a b:Nat}(h:a≠b):Nat.beq a b=false:=by
 cases hb:Nat.beq a b with
 |true=>exact absurd (zl hb) h
 |false=>rfl
inductive At(φ:BMap)(s:St)(tm:TT)(H:CH):Lo→V→U→Prop where
 |slot (i:Nat):i<1024→At φ s tm H (.slot i) (tm.get i) (s.fr i)
 |cell (a o:Nat) (b:Id) (cs:List U) (l:List V) (e:TypeId) (v:V) (u:U):s.st[a]? =some (.box cs)→φ a=some b→H.get b=some (.cells (zF l) e 0 [])→l[o]? =some v→cs[o]? =some u→
   At φ s tm H (.cell a o) v u
def zEE(x:Option Blk)(l:List V):Prop:=(∃e st sh,x=some (.cells (zF l) e st sh)∧st≠2)∨x=some (.arg (zF l))
structure Prt where
 k:Id→Prop
 n:Id→Prop
 o:Id→Prop
 s:∀b,n b→k b
inductive EntsU(φ:BMap)(S:SMap):List Ent→List (U×U)→Prop where
 |nil:EntsU φ S [] []
 |cons (e:Ent) (es:List Ent) (p:U×U) (ps:List (U×U)):VU φ S e.key p.1→VU φ S e.val p.2→(∀v,yU v p.2=none)→EntsU φ S es ps→EntsU φ S (e::es) (p::ps)
theorem EntsU.mono{φ ψ:BMap}{S R:SMap}(h1:φ.le ψ)(h2:S.le R){es:List Ent}{ps:List (U×U)}(h:EntsU φ S es ps):EntsU ψ R es ps:=by
 induction h with
 |nil=>exact .nil
 |cons e es p ps a b c _ ih=>exact .cons e es p ps (a.mono h1 h2) (b.mono h1 h2) c ih
def LqOk(q:Lq)(st:LoopState)(pe:Option Code):Prop:=match q with
 | .ready=>st=.ready∧pe=none
 | .busy=>st=.busy
 | .done e=>st=.done∧pe=jumpOf e∧pe≠none
def SBOk(φ:BMap)(S:SMap)(H:CH)(a:Nat)(x:SB):Prop:=match x with
 | .box cs=>∃b l e,φ a=some b∧H.get b=some (.cells (zF l) e 0 [])∧LU φ S l cs
 | .froz cs=>∃b l,φ a=some b∧S b=some l∧LU φ S l cs
 | .map es=>∃b ents n,φ a=some b∧H.get b=some (.map ents n)∧EntsU φ S ents es
 | .loop q l=>∃b st pe fn tm d,φ a=some b∧H.get b=some (.loop st pe fn tm l.ps l.assign l.body d)∧LqOk q st pe∧∀i,i<1024→VU φ S (tm.get i) (l.fr i)
 | .dead=>True
 | .fmap es=>∃b ents n,φ a=some b∧H.get b=some (.map ents n)∧EntsU φ S ents es
theorem SBOk.move{φ ψ:BMap}{S R:SMap}{H H':CH}{a:Nat}{x:SB}(h:SBOk φ S H a x)(h1:φ.le ψ)(h2:S.le R)(hg:∀b,φ a=some b→H'.get b=H.get b):SBOk ψ R H' a x:=by
 cases x with
 |box cs=>obtain⟨b,l,e,q1,q2,q3⟩:=h;exact⟨b,l,e,h1 _ _ q1,by rw[hg b q1];exact q2,q3.mono h1 h2⟩
 |froz cs=>obtain⟨b,l,q1,q2,q3⟩:=h;exact⟨b,l,h1 _ _ q1,h2 _ _ q2,q3.mono h1 h2⟩
 |map es=>obtain⟨b,l,e,q1,q2,q3⟩:=h;exact⟨b,l,e,h1 _ _ q1,by rw[hg b q1];exact q2,q3.mono h1 h2⟩
 |loop q l=>obtain⟨b,st,pe,fn,tm,d,q1,q2,q3,q4⟩:=h;exact⟨b,st,pe,fn,tm,d,h1 _ _ q1,by rw[hg b q1];exact q2,q3,fun i hi=>(q4 i hi).mono h1 h2⟩
 |dead=>trivial
 |fmap es=>obtain⟨b,l,e,q1,q2,q3⟩:=h;exact⟨b,l,e,h1 _ _ q1,by rw[hg b q1];exact q2,q3.mono h1 h2⟩
instance :CoeFun Prt (fun _=>Id→Prop):=⟨Prt.k⟩
def Thw(st:List SB)(a:Nat):Prop:=∀es,st[a]? ≠some (.fmap es)
theorem Thw.app{st new:List SB}{a:Nat}(ha:a<st.length)(h:Thw (st++new) a):Thw st a:=fun es e=>h es (by rw[List.getElem?_append_left ha];exact e)
theorem Thw.at{st:List SB}{a:Nat}{x:SB}(h:st[a]? =some x)(hx:∀es,x≠.fmap es):Thw st a:=fun es e=>by rw[h]at e;exact hx es (Option.some.inj e)
theorem Thw.set{st:List SB}{a c:Nat}{x y:SB}(hy:st[a]? =some y)(hx:∀es,y≠.fmap es)(h:Thw (st.set a x) c):Thw st c:=by
 by_cases e:c=a
 ·subst e;exact Thw.at hy hx
 ·exact fun es q=>h es (by rw[List.getElem?_set_ne (Ne.symm e)];exact q)
structure SR(Pr:Prt)(φ:BMap)(S:SMap)(s:St)(tm:TT)(H:CH):Prop where
 nok:H.n.wf
 fzn:H.fz≤H.n.num
 fr:∀i,i<1024→VU φ S (tm.get i) (s.fr i)
 bx:∀a x,s.st[a]? =some x→SBOk φ S H a x
 dom:∀a b,φ a=some b→b.wf∧Before b H.n∧a<s.st.length∧(Thw s.st a→H.fz≤b.num)
 inj:∀a a' b,φ a=some b→φ a'=some b→a=a'
 mem:∀b l,S b=some l→b.wf∧Before b H.n∧(∀a,φ a=some b→∃cs,s.st[a]? =some (.froz cs))∧zEE (H.get b) l
 own:∀lo v u b,At φ s tm H lo v u→yU v u=some b→H.fz≤b.num∧∃l e sh,H.get b=some (.cells (zF l) e 0 sh)
 excl:∀lo lo' v u v' u' b,At φ s tm H lo v u→At φ s tm H lo' v' u'→yU v u=some b→yU v' u'=some b→lo=lo'
 ali:∀p,p∈s.al→p.1<1024∧∃v u,At φ s tm H p.2 v u∧tm.get p.1=v
 prot:∀b,Pr b→b.wf∧Before b H.n∧(∀a,φ a=some b→∃cs,s.st[a]? =some (.froz cs))∧∀lo v u,At φ s tm H lo v u→yU v u≠some b
 pnew:∀b,Pr.n b→Pr b∧S b=none
variable {Pr:Prt}{φ φ':BMap}{S S':SMap}{s s':St}{tm tm':TT}{H H':CH}
theorem SR.pnew_ne(h:SR Pr φ S s tm H){b:Id}(hb:Pr.n b)(a:Nat):φ a≠some b:=by
 intro e
 obtain⟨q1,q2⟩:=h.pnew b hb
 obtain⟨cs,hc⟩:=(h.prot b q1).2.2.1 a e
 obtain⟨c,l,k1,k2,_⟩:=h.bx a _ hc
 rw[e]at k1;cases k1
 rw[q2]at k2;cases k2
theorem SR.box(h:SR Pr φ S s tm H)(a:Nat)(cs:List U)(hst:s.st[a]? =some (.box cs)):∃b l e,φ a=some b∧H.get b=some (.cells (zF l) e 0 [])∧LU φ S l cs:=h.bx a _ hst
theorem At.put{d:Nat}(hd:d<1024){v:V}{u:U}{lo:Lo}{w:V}{x:U}(h:At φ (s.put d u) (TT.set v tm d) H lo w x):
  (lo=.slot d∧w=v∧x=u)∨(lo≠.slot d∧At φ s tm H lo w x):=by
 cases h with
 |slot i hi=>
  rw[TT.get_set v tm d i hd hi]
  by_cases e:i=d
  ·subst e
   left
   refine⟨rfl,by simp,?_⟩
   show cond (Nat.beq i i) u (s.fr i)=u
   rw[Nat.beq_refl];rfl
  ·right
   refine⟨by simpa using e,?_⟩
   rw[if_neg e]
   have:(s.put d u).fr i=s.fr i:=by
    show cond (Nat.beq i d) u (s.fr i)=s.fr i
    rw[beq_ne e];rfl
   rw[this];exact .slot i hi
 |cell a o b cs l e v u h1 h2 h3 h4 h5=>exact .inr ⟨by simp,.cell a o b cs l e _ _ h1 h2 h3 h4 h5⟩
theorem At.of_put{d:Nat}(hd:d<1024){v:V}{u:U}{lo:Lo}{w:V}{x:U}(h:At φ s tm H lo w x)(hn:lo≠.slot d):At φ (s.put d u) (TT.set v tm d) H lo w x:=by
 cases h with
 |slot i hi=>
  have e:i≠d:=by rintro rfl;exact hn rfl
  have e1:(TT.set v tm d).get i=tm.get i:=by rw[TT.get_set v tm d i hd hi,if_neg e]
  have e2:(s.put d u).fr i=s.fr i:=by
   show cond (Nat.beq i d) u (s.fr i)=s.fr i
   rw[beq_ne e];rfl
  rw[←e1,←e2];exact .slot i hi
 |cell a o b cs l e v u h1 h2 h3 h4 h5=>exact .cell a o b cs l e _ _ h1 h2 h3 h4 h5
theorem SR.put(h:SR Pr φ S s tm H){d:Nat}(hd:d<1024){v:V}{u:U}(hv:VU φ S v u)
  (ho:∀b,yU v u=some b→H.fz≤b.num∧(∃l e sh,H.get b=some (.cells (zF l) e 0 sh))∧(∀lo v' u',At φ s tm H lo v' u'→yU v' u'≠some b)∧ ¬ Pr b):
  SR Pr φ S (s.put d u) (TT.set v tm d) H where
 nok:=h.nok
 fzn:=h.fzn
 fr:=by
  intro i hi
  rw[TT.get_set v tm d i hd hi]
  show VU φ S _ (cond (Nat.beq i d) u (s.fr i))
  by_cases e:i=d
  ·subst e;rw[if_pos rfl,Nat.beq_refl];exact hv
  ·rw[if_neg e,beq_ne e];exact h.fr i hi
 bx:=h.bx
 dom:=h.dom
 inj:=h.inj
 mem:=h.mem
 own:=by
  intro lo w x b ha hb
  rcases At.put hd ha with ⟨_,rfl,rfl⟩|⟨_,ha⟩
  ·exact⟨(ho b hb).1,(ho b hb).2.1⟩
  ·exact h.own lo w x b ha hb
 excl:=by
  intro lo lo' w x w' x' b ha ha' hb hb'
  rcases At.put hd ha with ⟨e1,rfl,rfl⟩|⟨n1,ka⟩<;>rcases At.put hd ha' with ⟨e2,rfl,rfl⟩|⟨n2,ka'⟩
  ·rw[e1,e2]
  ·exact absurd hb' ((ho b hb).2.2.1 _ _ _ ka')
  ·exact absurd hb ((ho b hb').2.2.1 _ _ _ ka)
  ·exact h.excl lo lo' w x w' x' b ka ka' hb hb'
 ali:=by
  intro p hp
  have hp:p∈zEY (fun p=> !(Nat.beq p.1 d)&& !(p.2.isSlot d)) s.al:=hp
  rw[zGm]at hp
  obtain⟨h1,h2⟩:=List.mem_filter.1 hp
  obtain⟨h3,w,x,h4,h5⟩:=h.ali p h1
  have n1:p.1≠d:=by intro e;rw[e]at h2;simp at h2
  have n2:p.2≠.slot d:=by intro e;rw[e]at h2;simp[Lo.isSlot]at h2
  refine⟨h3,w,x,h4.of_put hd n2,?_⟩
  rw[TT.get_set v tm d p.1 hd h3,if_neg n1];exact h5
 prot:=by
  intro b hb
  obtain⟨p1,p2,p3,p4⟩:=h.prot b hb
  refine⟨p1,p2,p3,fun lo w x ha=>?_⟩
  rcases At.put hd ha with ⟨_,rfl,rfl⟩|⟨_,ha⟩
  ·intro e;exact(ho b e).2.2.2 hb
  ·exact p4 lo w x ha
 pnew:=h.pnew
theorem SR.put'(h:SR Pr φ S s tm H){d:Nat}(hd:d<1024){v:V}{u:U}(hv:VU φ S v u)(ho:yU v u=none):SR Pr φ S (s.put d u) (TT.set v tm d) H:=
 h.put hd hv fun b hb=>by rw[ho]at hb;cases hb
noncomputable def St.drop(s:St)(d:Nat):St:=⟨fun j=>cond (Nat.beq j d) (dg (s.fr d)) (s.fr j),s.al,s.st⟩
theorem At.drop{d:Nat}{lo:Lo}{w:V}{x:U}(h:At φ (s.drop d) tm H lo w x):∃x',At φ s tm H lo w x'∧((x=x'∧lo≠.slot d)∨(lo=.slot d∧x=dg x')):=by
 cases h with
 |slot i hi=>
  refine⟨_,.slot i hi,?_⟩
  by_cases e:i=d
  ·subst e;right;refine⟨rfl,?_⟩
   show cond (Nat.beq i i) _ _=_
   rw[Nat.beq_refl];rfl
  ·left
   refine⟨?_,by simpa using e⟩
   show cond (Nat.beq i d) _ _=_
   rw[beq_ne e];rfl
 |cell a o b cs l e v u h1 h2 h3 h4 h5=>exact⟨_,.cell a o b cs l e _ _ h1 h2 h3 h4 h5,.inl ⟨rfl,by simp⟩⟩
theorem At.of_drop{d:Nat}{lo:Lo}{w:V}{x:U}(h:At φ s tm H lo w x):∃x',At φ (s.drop d) tm H lo w x':=by
 cases h with
 |slot i hi=>exact⟨_,.slot i hi⟩
 |cell a o b cs l e v u h1 h2 h3 h4 h5=>exact⟨_,.cell a o b cs l e _ _ h1 h2 h3 h4 h5⟩
theorem SR.drop(h:SR Pr φ S s tm H)(d:Nat):SR Pr φ S (s.drop d) tm H where
 nok:=h.nok
 fzn:=h.fzn
 fr:=by
  intro i hi
  show VU φ S _ (cond (Nat.beq i d) (dg (s.fr d)) (s.fr i))
  by_cases e:i=d
  ·subst e;rw[Nat.beq_refl];exact(h.fr i hi).dg
  ·rw[beq_ne e];exact h.fr i hi
 bx:=h.bx
 dom:=h.dom
 inj:=h.inj
 mem:=h.mem
 own:=by
  intro lo w x b ha hb
  obtain⟨x',ha',⟨rfl,_⟩|⟨_,rfl⟩⟩:=At.drop ha
  ·exact h.own lo w x b ha' hb
  ·rw[yk]at hb;cases hb
 excl:=by
  intro lo lo' w x w' x' b ha ha' hb hb'
  obtain⟨y,hy,⟨rfl,_⟩|⟨_,rfl⟩⟩:=At.drop ha
  ·obtain⟨y',hy',⟨rfl,_⟩|⟨_,rfl⟩⟩:=At.drop ha'
   ·exact h.excl lo lo' w x w' x' b hy hy' hb hb'
   ·rw[yk]at hb';cases hb'
  ·rw[yk]at hb;cases hb
 ali:=by
  intro p hp
  obtain⟨h3,w,x,h4,h5⟩:=h.ali p hp
  obtain⟨x',h6⟩:=h4.of_drop (d:=d)
  exact⟨h3,w,x',h6,h5⟩
 prot:=by
  intro b hb
  obtain⟨p1,p2,p3,p4⟩:=h.prot b hb
  refine⟨p1,p2,p3,fun lo w x ha=>?_⟩
  obtain⟨y,hy,⟨rfl,_⟩|⟨_,rfl⟩⟩:=At.drop ha
  ·exact p4 lo w x hy
  ·rw[yk];simp
 pnew:=h.pnew
theorem SR.dropped(h:SR Pr φ S s tm H){d:Nat}(hd:d<1024){b:Id}(hb:yU (tm.get d) (s.fr d)=some b):∀lo v u,At φ (s.drop d) tm H lo v u→yU v u≠some b:=by
 intro lo v u ha he
 obtain⟨y,hy,⟨rfl,hn⟩|⟨_,rfl⟩⟩:=At.drop ha
 ·exact hn (h.excl lo (.slot d) v u _ _ b hy (.slot d hd) he hb)
 ·rw[yk]at he;cases he
theorem SR.noAl(h:SR Pr φ S s tm H):SR Pr φ S {s with al:=[]} tm H:=by
 have key:∀lo v u,At φ {s with al:=[]} tm H lo v u→At φ s tm H lo v u:=by
  intro lo v u ha
  cases ha with
  |slot i hi=>exact .slot i hi
  |cell a o b cs l e v u h1 h2 h3 h4 h5=>exact .cell a o b cs l e _ _ h1 h2 h3 h4 h5
 exact⟨h.nok,h.fzn,h.fr,h.bx,h.dom,h.inj,h.mem,fun lo v u b ha=>h.own lo v u b (key _ _ _ ha),fun lo lo' v u v' u' b ha ha'=>h.excl lo lo' v u v' u' b (key _ _ _ ha) (key _ _ _ ha'),
  fun p hp=>by simp at hp,fun b hb=>⟨(h.prot b hb).1,(h.prot b hb).2.1,(h.prot b hb).2.2.1,fun lo v u ha=>(h.prot b hb).2.2.2 lo v u (key _ _ _ ha)⟩,h.pnew⟩
theorem SR.addAl(h:SR Pr φ S s tm H){d:Nat}(hd:d<1024){lo:Lo}{v:V}{u:U}(ha:At φ s tm H lo v u)(he:tm.get d=v):SR Pr φ S {s with al:=(d,lo)::s.al} tm H:=by
 have key:∀lo v u,At φ {s with al:=(d,lo)::s.al} tm H lo v u→At φ s tm H lo v u:=by
  intro lo v u ha
  cases ha with
  |slot i hi=>exact .slot i hi
  |cell a o b cs l e v u h1 h2 h3 h4 h5=>exact .cell a o b cs l e _ _ h1 h2 h3 h4 h5
 have key':∀lo' v u,At φ s tm H lo' v u→At φ {s with al:=(d,lo)::s.al} tm H lo' v u:=by
  intro lo v u ha
  cases ha with
  |slot i hi=>exact .slot i hi
  |cell a o b cs l e v u h1 h2 h3 h4 h5=>exact .cell a o b cs l e _ _ h1 h2 h3 h4 h5
 have key:∀lo' v u,At φ {s with al:=(d,lo)::s.al} tm H lo' v u→At φ s tm H lo' v u:=by
  intro lo v u ha
  cases ha with
  |slot i hi=>exact .slot i hi
  |cell a o b cs l e v u h1 h2 h3 h4 h5=>exact .cell a o b cs l e _ _ h1 h2 h3 h4 h5
 refine⟨h.nok,h.fzn,h.fr,h.bx,h.dom,h.inj,h.mem,fun lo v u b ha=>h.own lo v u b (key _ _ _ ha),fun lo lo' v u v' u' b ha ha'=>h.excl lo lo' v u v' u' b (key _ _ _ ha) (key _ _ _ ha'),
  fun p hp=>?_,fun b hb=>⟨(h.prot b hb).1,(h.prot b hb).2.1,(h.prot b hb).2.2.1,fun lo v u ha=>(h.prot b hb).2.2.2 lo v u (key _ _ _ ha)⟩,h.pnew⟩
 have hp:p∈(d,lo)::s.al:=hp
 rcases List.mem_cons.1 hp with rfl|hp
 ·exact⟨hd,v,u,key' _ _ _ ha,he⟩
 ·obtain⟨h3,w,x,h4,h5⟩:=h.ali p hp
  exact⟨h3,w,x,key' _ _ _ h4,h5⟩
end Vam
namespace Vam
open Go
def OddTo(x y:Option Blk):Prop:=(∀t,x=some (.dfr t)→y=some (.dfr t))∧
 (∀st pe fn tm ps as bd d,x=some (.loop st pe fn tm ps as bd d)→∃st pe fn tm ps as bd,y=some (.loop st pe fn tm ps as bd d))
theorem OddTo.refl(x:Option Blk):OddTo x x:=⟨fun _ h=>h,fun st pe fn tm ps as bd d h=>⟨st,pe,fn,tm,ps,as,bd,h⟩⟩
theorem OddTo.of_eq{x y:Option Blk}(h:y=x):OddTo x y:=by rw[h];exact .refl x
theorem OddTo.cells{y:Option Blk}{cs:V}{e:TypeId}{st:Nat}{sh:List Id}:OddTo (some (.cells cs e st sh)) y:=⟨fun _ h=>(by cases h),fun _ _ _ _ _ _ _ _ h=>(by cases h)⟩
theorem OddTo.map{y:Option Blk}{es:List Ent}{n:Nat}:OddTo (some (.map es n)) y:=⟨fun _ h=>(by cases h),fun _ _ _ _ _ _ _ _ h=>(by cases h)⟩
theorem OddTo.trans{x y z:Option Blk}(h:OddTo x y)(k:OddTo y z):OddTo x z:=
 ⟨fun t e=>k.1 t (h.1 t e),fun st pe fn tm ps as bd d e=>by obtain⟨st,pe,fn,tm,ps,as,bd,e⟩:=h.2 st pe fn tm ps as bd d e;exact k.2 _ _ _ _ _ _ _ _ e⟩
structure Kept(Pr:Prt)(H H':CH):Prop where
 fz:H'.fz=H.fz
 bef:∀b,Before b H.n→Before b H'.n
 get:∀b,Pr b→H'.get b=H.get b
 odd:∀b,Pr.o b→b.wf→Before b H.n→OddTo (H.get b) (H'.get b)
theorem Kept.refl(Pr:Prt)(H:CH):Kept Pr H H:=⟨rfl,fun _ h=>h,fun _ _=>rfl,fun _ _ _ _=>.refl _⟩
theorem Kept.trans{Pr:Prt}{H H' H'':CH}(h:Kept Pr H H')(k:Kept Pr H' H''):Kept Pr H H'':=
 ⟨k.fz.trans h.fz,fun b e=>k.bef b (h.bef b e),fun b e=>(k.get b e).trans (h.get b e),fun b ho hw hb=>(h.odd b ho hw hb).trans (k.odd b ho hw (h.bef b hb))⟩
def Post(Pr:Prt)(φ:BMap)(S:SMap)(H:CH)(Q:St→Prop)(Run:TT→CH→Prop):Prop:=
 ∃s' tm' H' φ' S',Run tm' H'∧SR Pr φ' S' s' tm' H'∧φ.le φ'∧S.le S'∧Kept Pr H H'∧Q s'
theorem Post.here{Pr:Prt}{φ:BMap}{S:SMap}{s:St}{tm:TT}{H:CH}{Q:St→Prop}{Run:TT→CH→Prop}(h:SR Pr φ S s tm H)(hr:Run tm H)(hq:Q s):Post Pr φ S H Q Run:=
 ⟨s,tm,H,φ,S,hr,h,φ.le_refl,S.le_refl,Kept.refl _ _,hq⟩
def uOf(v:V):U:=match v with
 | .bool b=>.bool b
 | .int k n=>.int k n
 | .str s=>.str s
 | .nilp=>.nilp
 | .nils=>.lst .full 0 []
 | .nilm=>.nilm
 | .nilf=>.nilf
 |_=>.junk
def zBu:V→List U
 | .cons x l=>uOf x::zBu l
 |_=>[]
def uOfV(v:V):U:=match v with
 | .agg l=>.agg (zBu l)
 |v=>uOf v
noncomputable def uOfC(v:Value):U:=match zCh v with
 |some x=>uOfV x
 |none=>.junk
theorem uOf_rel{φ:BMap}{S:SMap}(v:V):VU φ S v (uOf v):=by
 cases v<;>first|exact .junk _|exact .bool _|exact .int _ _|exact .str _|exact .nilp|exact .nils _ _|exact .nilm|exact .nilf
theorem zCs{φ:BMap}{S:SMap}(l:List V):LU φ S l (zBu (zF l)):=by
 induction l with
 |nil=>exact .nil
 |cons x l ih=>exact .cons _ _ _ _ (uOf_rel x) ih
theorem ofValO_agg{v:Value}{l:V}(h:zCh v=some (.agg l)):∃m,l=zF m:=by
 have h1:∀v,zFR v≠some (.agg l):=by
  intro v
  unfold zFR
  split<;>simp
 unfold zCh at h
 split at h
 ·split at h
  ·rename_i m _;cases h;exact⟨m,rfl⟩
  ·cases h
 ·exact absurd h (h1 _)
theorem uOfC_rel{φ:BMap}{S:SMap}(v:Value):VU φ S (zDr v) (uOfC v):=by
 unfold uOfC zDr
 cases h:zCh v with
 |none=>exact .junk _
 |some x=>
  show VU φ S x (uOfV x)
  cases x with
  |agg l=>obtain⟨m,rfl⟩:=ofValO_agg h;exact .agg _ _ (zCs m)
  |_=>exact uOf_rel _
noncomputable def St.slot(s:St)(t:Nat):U:=cond (Nat.blt t 1024) (s.fr t) .junk
noncomputable def zQ(s:St)(o:Operand):U:=match o with
 | .tmp t=>s.slot t
 | .const v=>uOfC v
 | .func f=>.fn f [] []
 | .global _=>.junk
noncomputable def zDG(s:St)(l:List Operand):List U:=l.map (zQ s)
variable {Pr:Prt}{φ φ':BMap}{S S':SMap}{s s':St}{tm tm':TT}{H H':CH}
theorem zK(h:SR Pr φ S s tm H)(o:Operand):VU φ S (zG tm o) (zQ s o):=by
 cases o with
 |tmp t=>
  show VU φ S (tm.get t) (cond (Nat.blt t 1024) (s.fr t) .junk)
  cases hb:Nat.blt t 1024 with
  |true=>exact h.fr t (yu hb)
  |false=>exact .junk _
 |const v=>exact uOfC_rel v
 |global g=>exact .junk _
 |func f=>exact .fn f [] [] [] [] .nil .nil
theorem zBi(tm:TT)(l:List Operand):yY tm l=zF (l.map (zG tm)):=by
 induction l with
 |nil=>rfl
 |cons o l ih=>show V.cons (zG tm o) (yY tm l)=_;rw[ih];rfl
theorem zAH(h:SR Pr φ S s tm H)(l:List Operand):LU φ S (l.map (zG tm)) (zDG s l):=by
 induction l with
 |nil=>exact .nil
 |cons o l ih=>exact .cons _ _ _ _ (zK h o) ih
def RoOk(Pr:Prt)(ro:Option Id)(H:CH):Prop:=∀l,ro=some l→Pr.o l∧∃st pe fn tm ps as bd d,H.get l=some (.loop st pe fn tm ps as bd d)
def OOk(Pr:Prt)(H:CH):Prop:=∀b,Pr.o b→b.wf∧Before b H.n
theorem RoOk.none(Pr:Prt)(H:CH):RoOk Pr none H:=fun l h=>by cases h
theorem RoOk.kept{Pr:Prt}{ro:Option Id}{H H':CH}(h:RoOk Pr ro H)(ho:OOk Pr H)(k:Kept Pr H H'):RoOk Pr ro H':=fun l e=>by
 obtain⟨h1,st,pe,fn,tm,ps,as,bd,d,h2⟩:=h l e
 obtain⟨w1,w2⟩:=ho l h1
 obtain⟨st',pe',fn',tm',ps',as',bd',h3⟩:=(k.odd l h1 w1 w2).2 _ _ _ _ _ _ _ _ h2
 exact⟨h1,st',pe',fn',tm',ps',as',bd',d,h3⟩
theorem OOk.kept{Pr:Prt}{H H':CH}(ho:OOk Pr H)(k:Kept Pr H H'):OOk Pr H':=fun b hb=>⟨(ho b hb).1,k.bef b (ho b hb).2⟩
structure Ran(H H':CH)(ro:Option Id)(new:List Id):Prop where
 nodup:new.Nodup
 ok:∀b∈new,b.wf∧ ¬ Before b H.n∧Before b H'.n∧H'.get b=some (.dfr false)∧H'.fz≤b.num
 rnd:ro≠none→new=[]
theorem Ran.nil(H H':CH)(ro:Option Id):Ran H H' ro []:=⟨List.nodup_nil,fun b hb=>(by cases hb),fun _=>rfl⟩
def Prt.plus(Pr:Prt)(new:List Id):Prt:=⟨Pr.k,Pr.n,fun b=>Pr.o b∨b∈new,Pr.s⟩
theorem SR.plus(h:SR Pr φ S s tm H)(new:List Id):SR (Pr.plus new) φ S s tm H:=⟨h.nok,h.fzn,h.fr,h.bx,h.dom,h.inj,h.mem,h.own,h.excl,h.ali,h.prot,h.pnew⟩
theorem SR.unplus{new:List Id}(h:SR (Pr.plus new) φ S s tm H):SR Pr φ S s tm H:=⟨h.nok,h.fzn,h.fr,h.bx,h.dom,h.inj,h.mem,h.own,h.excl,h.ali,h.prot,h.pnew⟩
theorem Kept.unplus{new:List Id}(h:Kept (Pr.plus new) H H'):Kept Pr H H':=⟨h.fz,h.bef,h.get,fun b hb=>h.odd b (.inl hb)⟩
theorem Ran.trans{H1 H2:CH}{ro:Option Id}{new1 new2:List Id}(h:Ran H H1 ro new1)(h1:Kept Pr H H1)(k:Ran H1 H2 ro new2)(k1:Kept (Pr.plus new1) H1 H2):Ran H H2 ro (new2++new1):=by
 refine⟨List.nodup_append.2 ⟨k.nodup,h.nodup,fun a ha b hb e=>?_⟩,fun b hb=>?_,fun hr=>by rw[h.rnd hr,k.rnd hr];rfl⟩
 ·subst e;exact(k.ok a ha).2.1 (h.ok a hb).2.2.1
 ·rcases List.mem_append.1 hb with hb|hb
  ·obtain⟨q1,q2,q3⟩:=k.ok b hb
   exact⟨q1,fun hq=>q2 (h1.bef b hq),q3⟩
  ·obtain⟨q1,q2,q3,q4,q5⟩:=h.ok b hb
   exact⟨q1,q2,k1.bef b q3,(k1.odd b (.inr hb) q1 q3).1 _ q4,by rw[k1.fz];exact q5⟩
theorem OOk.plus{H1:CH}{ro:Option Id}{new:List Id}(ho:OOk Pr H)(h:Ran H H1 ro new)(h1:Kept Pr H H1):OOk (Pr.plus new) H1:=by
 intro b hb
 rcases hb with hb|hb
 ·exact⟨(ho b hb).1,h1.bef b (ho b hb).2⟩
 ·exact⟨(h.ok b hb).1,(h.ok b hb).2.2.1⟩
theorem RoOk.plus{ro:Option Id}{new:List Id}(h:RoOk Pr ro H):RoOk (Pr.plus new) ro H:=fun l e=>⟨.inl (h l e).1,(h l e).2⟩
section
variable (P:Program)(is:FuncId→Bool)(orc:Known)
def Wp(c:Code)(s:St)(Q:Ex→St→Prop):Prop:=∀Pr φ S tm H ds ro fn,SR Pr φ S s tm H→OOk Pr H→RoOk Pr ro H→
 ∃e new,Post Pr φ S H (Q e) fun tm' H'=>Ran H H' ro new∧∃n0,∀n,n0≤n→(zO true P is orc n).code c tm ds ro fn H=.ok e tm' (new++ds) H'
def WpO(all l:List Oper)(s:St)(Q:St→Prop):Prop:=∀Pr φ S tm H,SR Pr φ S s tm H→
 Post Pr φ S H Q fun tm' H'=>∃n0,∀n,n0≤n→zBq P (zO true P is orc n) all l tm H=.ok tm' H'
end
variable {P:Program}{is:FuncId→Bool}{orc:Known}
theorem Wp.mono{c:Code}{Q Q':Ex→St→Prop}(h:Wp P is orc c s Q)(k:∀e s,Q e s→Q' e s):Wp P is orc c s Q':=by
 intro Pr φ S tm H ds ro fn hs ho hr
 obtain⟨e,new,s',tm',H',φ',S',h1,h2,h3,h4,h5,h6⟩:=h Pr φ S tm H ds ro fn hs ho hr
 exact⟨e,new,s',tm',H',φ',S',h1,h2,h3,h4,h5,k _ _ h6⟩
theorem zV{Q:Ex→St→Prop}(h:Q .normal s):Wp P is orc .skip s Q:=fun Pr φ S tm H ds ro fn hs _ _=>
 ⟨.normal,[],Post.here hs ⟨.nil _ _ _,1,fun n hn=>by cases n with|zero=>exact absurd hn (by omega)|succ n=>rfl⟩ h⟩
theorem yj{Q:Ex→St→Prop}{i:Nat}(h:Q (.exit i) s):Wp P is orc (.exit i) s Q:=fun Pr φ S tm H ds ro fn hs _ _=>
 ⟨.exit i,[],Post.here hs ⟨.nil _ _ _,1,fun n hn=>by cases n with|zero=>exact absurd hn (by omega)|succ n=>rfl⟩ h⟩
theorem zw{Q:Ex→St→Prop}(h:Q .ret s):Wp P is orc .ret s Q:=fun Pr φ S tm H ds ro fn hs _ _=>
 ⟨.ret,[],Post.here hs ⟨.nil _ _ _,1,fun n hn=>by cases n with|zero=>exact absurd hn (by omega)|succ n=>rfl⟩ h⟩
theorem k_seq{a b:Code}{Q:Ex→St→Prop}(h:Wp P is orc a s fun e s'=>match e with| .normal=>Wp P is orc b s' Q|e=>Q e s'):Wp P is orc (.seq a b) s Q:=by
 intro Pr φ S tm H ds ro fn hs ho hr
 obtain⟨e,new,hp⟩:=h Pr φ S tm H ds ro fn hs ho hr
 have other:∀e,(∀(E:Ev) (b:Code) (tm':TT) (ds':List Id) (H':CH),cSeq E b ro fn (.ok e tm' ds' H')=.ok e tm' ds' H')→(Post Pr φ S H (Q e) fun tm' H'=>Ran H H' ro new∧∃n0,∀n,n0≤n→(zO true P is orc n).code a tm ds ro fn H=.ok e tm' (new++ds) H')→
   ∃e new,Post Pr φ S H (Q e) fun tm' H'=>Ran H H' ro new∧∃n0,∀n,n0≤n→(zO true P is orc n).code (.seq a b) tm ds ro fn H=.ok e tm' (new++ds) H':=by
  rintro e he ⟨s1,tm1,H1,φ1,S1,⟨h0,n1,h1⟩,h2⟩
  refine⟨e,new,s1,tm1,H1,φ1,S1,⟨h0,n1+1,fun n hn=>?_⟩,h2⟩
  cases n with
  |zero=>omega
  |succ n=>
   show cSeq (zO true P is orc n) b ro fn ((zO true P is orc n).code a tm ds ro fn H)=_
   rw[h1 n (by omega)];exact he _ _ _ _ _
 cases e with
 |normal=>
  obtain⟨s1,tm1,H1,φ1,S1,⟨h0,n1,h1⟩,h2,h3,h4,h5,h6⟩:=hp
  obtain⟨e,new2,s2,tm2,H2,φ2,S2,⟨k0,n2,k1⟩,k2,k3,k4,k5,k6⟩:=h6 (Pr.plus new) φ1 S1 tm1 H1 (new++ds) ro fn (h2.plus new) (ho.plus h0 h5) (hr.kept ho h5).plus
  refine⟨e,new2++new,s2,tm2,H2,φ2,S2,⟨h0.trans h5 k0 k5,n1+n2+1,fun n hn=>?_⟩,k2.unplus,BMap.le_trans h3 k3,SMap.le_trans h4 k4,h5.trans k5.unplus,k6⟩
  cases n with
  |zero=>omega
  |succ n=>
   show cSeq (zO true P is orc n) b ro fn ((zO true P is orc n).code a tm ds ro fn H)=_
   rw[h1 n (by omega),List.append_assoc]
   exact k1 n (by omega)
 |exit i=>exact other _ (fun _ _ _ _ _=>rfl) hp
 |goto i=>exact other _ (fun _ _ _ _ _=>rfl) hp
 |ret=>exact other _ (fun _ _ _ _ _=>rfl) hp
theorem zDI{v:V}{b:Bool}(h:VU φ S v (.bool b)):v=.bool b:=by cases h;rfl
theorem zCE{v:V}{k:IntKind}{n:Int}(h:VU φ S v (.int k n)):v=.int k n:=by cases h;rfl
theorem k_cond{x:Operand}{a b:Code}{t:Bool}{Q:Ex→St→Prop}(hx:zQ s x=.bool t)(ha:t=true→Wp P is orc a s Q)(hb:t=false→Wp P is orc b s Q):Wp P is orc (.cond x a b) s Q:=by
 intro Pr φ S tm H ds ro fn hs ho hr
 have hv:=zK hs x
 rw[hx]at hv
 have hv:=zDI hv
 have hc:Wp P is orc (cond t a b) s Q:=by
  cases t with
  |true=>exact ha rfl
  |false=>exact hb rfl
 obtain⟨e,new,s1,tm1,H1,φ1,S1,⟨h0,n1,h1⟩,h2⟩:=hc Pr φ S tm H ds ro fn hs ho hr
 refine⟨e,new,s1,tm1,H1,φ1,S1,⟨h0,n1+1,fun n hn=>?_⟩,h2⟩
 cases n with
 |zero=>omega
 |succ n=>
  show cCond (zO true P is orc n) (zG tm x) a b tm ds ro fn H=_
  rw[hv];exact h1 n (by omega)
noncomputable def outOf(i:Nat)(e:Ex):Ex:=match e with
 | .exit j=>cond (Nat.beq j i) .normal (.exit j)
 |e=>e
theorem zR{i:Nat}{b:Code}{Q:Ex→St→Prop}(h:Wp P is orc b s fun e s'=>Q (outOf i e) s'):Wp P is orc (.block i b) s Q:=by
 intro Pr φ S tm H ds ro fn hs ho hr
 obtain⟨e,new,s1,tm1,H1,φ1,S1,⟨h0,n1,h1⟩,h2⟩:=h Pr φ S tm H ds ro fn hs ho hr
 refine⟨outOf i e,new,s1,tm1,H1,φ1,S1,⟨h0,n1+1,fun n hn=>?_⟩,h2⟩
 cases n with
 |zero=>omega
 |succ n=>
  show cBlock i ((zO true P is orc n).code b tm ds ro fn H)=_
  rw[h1 n (by omega)]
  cases e<;>rfl
theorem yq{b:Code}{Q:Ex→St→Prop}(I:Nat→St→Prop)
  (step:∀k s,I k s→Wp P is orc b s fun e s'=>match e with| .normal=>∃j,j<k∧I j s'|e=>Q e s'):∀k s,I k s→Wp P is orc (.loop b) s Q:=by
 intro k
 induction k using Nat.strongRecOn with
 |ind k ih=>
  intro s hi Pr φ S tm H ds ro fn hs ho hr
  have hq:Wp P is orc b s fun e s'=>match e with| .normal=>Wp P is orc (.loop b) s' Q|e=>Q e s':=by
   refine(step k s hi).mono fun e s' he=>?_
   cases e with
   |normal=>obtain⟨j,hj,hI⟩:=he;exact ih j hj s' hI
   |_=>exact he
  obtain⟨e,new,s2,tm2,H2,φ2,S2,⟨k0,n2,k1⟩,k2⟩:=k_seq (b:=.loop b) hq Pr φ S tm H ds ro fn hs ho hr
  refine⟨e,new,s2,tm2,H2,φ2,S2,⟨k0,n2,fun n hn=>?_⟩,k2⟩
  cases n with
  |zero=>exact k1 0 hn
  |succ n=>exact k1 (n+1) hn
theorem k_region{i:Nat}{ops:Array Oper}{Q:Ex→St→Prop}(h:WpO P is orc ops.toList ops.toList s fun s'=>Q .normal {s' with al:=[]}):Wp P is orc (.region i ops false) s Q:=by
 intro Pr φ S tm H ds ro fn hs ho hr
 obtain⟨s1,tm1,H1,φ1,S1,⟨n1,h1⟩,h2,h3,h4,h5,h6⟩:=h Pr φ S tm H hs
 refine⟨.normal,[],{s1 with al:=[]},tm1,H1,φ1,S1,⟨.nil _ _ _,n1+1,fun n hn=>?_⟩,h2.noAl,h3,h4,h5,h6⟩
 cases n with
 |zero=>omega
 |succ n=>
  show zDH ds (zBq P (zO true P is orc n) ops.toList ops.toList tm H)=_
  rw[h1 n (by omega)];rfl
theorem zA{all:List Oper}{Q:St→Prop}(h:Q s):WpO P is orc all [] s Q:=fun _ _ _ _ _ hs=>Post.here hs ⟨0,fun _ _=>rfl⟩ h
def NewOk(Pr:Prt)(φ:BMap)(s:St)(tm:TT)(H:CH)(v:V)(u:U):Prop:=∀b,yU v u=some b→
 H.fz≤b.num∧(∃l e sh,H.get b=some (.cells (zF l) e 0 sh))∧(∀lo v' u',At φ s tm H lo v' u'→yU v' u'≠some b)∧ ¬ Pr b
theorem NewOk.none{v:V}{u:U}(h:yU v u=none):NewOk Pr φ s tm H v u:=fun b hb=>by rw[h]at hb;cases hb
def OpV(P:Program)(is:FuncId→Bool)(orc:Known)(o:Op)(s:St)(R:U→St→Prop):Prop:=∀Pr φ S tm H,SR Pr φ S s tm H→
 ∃v u s1 H' φ' S',(∃n0,∀n,n0≤n→evOp P (zO true P is orc n) tm H o=.ok v H')∧SR Pr φ' S' s1 tm H'∧φ.le φ'∧S.le S'∧Kept Pr H H'∧VU φ' S' v u∧NewOk Pr φ' s1 tm H' v u∧R u s1
noncomputable def St.dst(s:St)(d:Option Nat)(u:U):St:=match d with
 |some d=>s.put d u
 |none=>s
theorem zBI(h:SR Pr φ S s tm H){d:Option Nat}(hd:wj 1024 d=true){v:V}{u:U}(hv:VU φ S v u)(hn:NewOk Pr φ s tm H v u):SR Pr φ S (s.dst d u) (setT tm d v) H:=by
 cases d with
 |none=>exact h
 |some d=>exact h.put (yu hd) hv hn
theorem o_op{all l:List Oper}{dst:Option Nat}{o:Op}{t:TypeId}{p:String}{a:Array Edge}{R:U→St→Prop}{Q:St→Prop}(hd:wj 1024 dst=true)(ho:OpV P is orc o s R)
  (k:∀u s1,R u s1→WpO P is orc all l (s1.dst dst u) Q):WpO P is orc all (⟨dst,o,t,p,a,none⟩::l) s Q:=by
 intro Pr φ S tm H hs
 obtain⟨v,u,s1,H1,φ1,S1,⟨n1,h1⟩,h2,h3,h4,h5,h6,h7,h8⟩:=ho Pr φ S tm H hs
 obtain⟨s2,tm2,H2,φ2,S2,⟨n2,k1⟩,k2,k3,k4,k5,k6⟩:=k u s1 h8 Pr φ1 S1 _ H1 (zBI h2 hd h6 h7)
 refine⟨s2,tm2,H2,φ2,S2,⟨n1+n2,fun n hn=>?_⟩,k2,BMap.le_trans h3 k3,SMap.le_trans h4 k4,h5.trans k5,k6⟩
 show zCn P (zO true P is orc n) dst o tm H (zBq P (zO true P is orc n) all l)=_
 unfold zCn
 rw[h1 n (by omega)]
 exact k1 n (by omega)
theorem o_guard{all l:List Oper}{dst:Option Nat}{o:Op}{t:TypeId}{p:String}{a:Array Edge}{g:Nat}{want:Bool}{og:Oper}{j:Nat}{c:Bool}{Q:St→Prop}(hd:wj 1024 dst=true)
  (hg:nthO all g=some og) (hj:og.dst=some j) (hc:s.slot j=.bool c)
  (h1:c=want→WpO P is orc all (⟨dst,o,t,p,a,none⟩::l) s Q) (h2:c= !want→WpO P is orc all l (s.dst dst .junk) Q):WpO P is orc all (⟨dst,o,t,p,a,some (g,want)⟩::l) s Q:=by
 intro Pr φ S tm H hs
 have hv:=zK hs (.tmp j)
 rw[show zQ s (.tmp j)=.bool c from hc]at hv
 have hv:tm.get j=.bool c:=zDI hv
 have hw:zBs all tm (g,want)=bEq c want:=by
  show opt false (fun b=>bEq b want) (opt none (fun o=>opt none (fun d=>wB none (fun b=>some b) (tm.get d)) (dstOf o)) (nthO all g))=_
  rw[hg]
  show opt false (fun b=>bEq b want) (opt none (fun d=>wB none (fun b=>some b) (tm.get d)) og.dst)=_
  rw[hj]
  show opt false (fun b=>bEq b want) (wB none (fun b=>some b) (tm.get j))=_
  rw[hv];rfl
 by_cases e:c=want
 ·have hb:bEq c want=true:=by subst e;cases c<;>rfl
  obtain⟨s2,tm2,H2,φ2,S2,⟨n2,k1⟩,k2⟩:=h1 e Pr φ S tm H hs
  refine⟨s2,tm2,H2,φ2,S2,⟨n2,fun n hn=>?_⟩,k2⟩
  show opsIf P (zO true P is orc n) dst o tm H (zBq P (zO true P is orc n) all l) (zBs all tm (g,want))=_
  rw[hw,hb]
  exact k1 n hn
 ·have e':c= !want:=by cases c<;>cases want<;>simp_all
  have hb:bEq c want=false:=by subst e';cases want<;>rfl
  obtain⟨s2,tm2,H2,φ2,S2,⟨n2,k1⟩,k2⟩:=h2 e' Pr φ S _ H (zBI hs hd (UR.junk undef) (NewOk.none (by unfold yU;rfl)))
  refine⟨s2,tm2,H2,φ2,S2,⟨n2,fun n hn=>?_⟩,k2⟩
  show opsIf P (zO true P is orc n) dst o tm H (zBq P (zO true P is orc n) all l) (zBs all tm (g,want))=_
  rw[hw,hb]
  exact k1 n hn
end Vam
namespace Vam
open Go
variable {Pr:Prt}{φ φ':BMap}{S S':SMap}{s s':St}{tm tm':TT}{H H':CH}{P:Program}{is:FuncId→Bool}{orc:Known}
theorem opv_pure{o:Op}{u:U}(hu:∀v,yU v u=none)(h:∀Pr φ S tm H,SR Pr φ S s tm H→∃v,(∀E:Ev,evOp P E tm H o=.ok v H)∧VU φ S v u):
  OpV P is orc o s fun u' s'=>u'=u∧s'=s:=by
 intro Pr φ S tm H hs
 obtain⟨v,h1,h2⟩:=h Pr φ S tm H hs
 exact⟨v,u,s,H,φ,S,⟨0,fun n _=>h1 _⟩,hs,φ.le_refl,S.le_refl,Kept.refl _ _,h2,NewOk.none (hu v),rfl,rfl⟩
theorem wm{all l:List Oper}{d:Nat}{o:Op}{t:TypeId}{p:String}{a:Array Edge}{u:U}{Q:St→Prop}(hd:Nat.blt d 1024=true)(hu:∀v,yU v u=none)
  (h:∀Pr φ S tm H,SR Pr φ S s tm H→∃v,(∀E:Ev,evOp P E tm H o=.ok v H)∧VU φ S v u) (k:WpO P is orc all l (s.put d u) Q):WpO P is orc all (⟨some d,o,t,p,a,none⟩::l) s Q:=
 o_op hd (opv_pure hu h) fun u' s1 h=>by obtain⟨rfl,rfl⟩:=h;exact k
noncomputable def mvAl(s:St)(d:Nat)(x:Operand)(al:List (Nat×Lo)):List (Nat×Lo):=match x with
 | .tmp y=>match s.slot y with
  | .lst .own _ _=>cond (Nat.beq y d) al ((d,.slot y)::al)
  |_=>al
 |_=>al
noncomputable def St.mv(s:St)(d:Nat)(x:Operand):St:=⟨fun j=>cond (Nat.beq j d) (dg (zQ s x)) (s.fr j),mvAl s d x (s.put d .junk).al,s.st⟩
theorem St.slot_lt{y:Nat}{k:Kd}{z:Nat}{es:List U}(h:s.slot y=.lst k z es):y<1024∧s.fr y=.lst k z es:=by
 unfold St.slot at h
 cases hb:Nat.blt y 1024 with
 |true=>rw[hb]at h;exact⟨yu hb,h⟩
 |false=>rw[hb]at h;cases h
theorem zD{all l:List Oper}{d:Nat}{x:Operand}{t:TypeId}{p:String}{a:Array Edge}{Q:St→Prop}(hd:Nat.blt d 1024=true)
  (k:WpO P is orc all l (s.mv d x) Q):WpO P is orc all (⟨some d,.move x,t,p,a,none⟩::l) s Q:=by
 intro Pr φ S tm H hs
 have h1:SR Pr φ S (s.put d (dg (zQ s x))) (TT.set (zG tm x) tm d) H:=hs.put' (yu hd) (zK hs x).dg (yk _ _)
 have h2:SR Pr φ S (s.mv d x) (TT.set (zG tm x) tm d) H:=by
  cases x with
  |tmp y=>
   cases hy:s.slot y with
   |lst kd z es=>
    cases kd with
    |own=>
     cases hb:Nat.beq y d with
     |true=>
      have e:s.mv d (.tmp y)=s.put d (dg (zQ s (.tmp y))):=by
       have hm:∀al,mvAl s d (.tmp y) al=cond (Nat.beq y d) al ((d,.slot y)::al):=fun al=>by unfold mvAl;simp only[hy]
       unfold St.mv;rw[hm,hb];rfl
      rw[e];exact h1
     |false=>
      have e:s.mv d (.tmp y)={s.put d (dg (zQ s (.tmp y)))with al:=(d,.slot y)::(s.put d (dg (zQ s (.tmp y)))).al}:=by
       have hm:∀al,mvAl s d (.tmp y) al=cond (Nat.beq y d) al ((d,.slot y)::al):=fun al=>by unfold mvAl;simp only[hy]
       unfold St.mv;rw[hm,hb];rfl
      rw[e]
      obtain⟨hy1,hy2⟩:=St.slot_lt hy
      have hne:y≠d:=by rintro rfl;rw[Nat.beq_refl]at hb;cases hb
      refine h1.addAl (yu hd) (v:=zG tm (.tmp y)) (At.of_put (yu hd) (At.slot y hy1) (by simpa using hne)) ?_
      rw[TT.get_set _ tm d d (yu hd) (yu hd),if_pos rfl]
    |_=>
     have e:s.mv d (.tmp y)=s.put d (dg (zQ s (.tmp y))):=by
      have hm:∀al,mvAl s d (.tmp y) al=al:=fun al=>by unfold mvAl;simp only[hy]
      unfold St.mv;rw[hm];rfl
     rw[e];exact h1
   |_=>
    have e:s.mv d (.tmp y)=s.put d (dg (zQ s (.tmp y))):=by
      have hm:∀al,mvAl s d (.tmp y) al=al:=fun al=>by unfold mvAl;simp only[hy]
      unfold St.mv;rw[hm];rfl
    rw[e];exact h1
  |_=>exact h1
 obtain⟨s2,tm2,H2,φ2,S2,⟨n2,k1⟩,k2⟩:=k Pr φ S _ H h2
 exact⟨s2,tm2,H2,φ2,S2,⟨n2,fun n hn=>k1 n hn⟩,k2⟩
noncomputable def St.dropO(s:St)(x:Operand):St:=match x with
 | .tmp y=>s.drop y
 |_=>s
noncomputable def St.asg(s:St)(d:Nat)(x:Operand):St:=(s.dropO x).put d (zQ s x)
theorem zHA(hs:SR Pr φ S s tm H)(x:Operand):SR Pr φ S (s.dropO x) tm H∧NewOk Pr φ (s.dropO x) tm H (zG tm x) (zQ s x):=by
 have none:∀u,(∀z es,u≠.lst .own z es)→∀v,yU v u=none:=by
  intro u hu v
  unfold yU
  split
  ·rename_i z es;exact absurd rfl (hu z es)
  ·rfl
 cases x with
 |tmp y=>
  refine⟨hs.drop y,?_⟩
  intro b hb
  have hb:yU (tm.get y) (s.slot y)=some b:=hb
  cases hq:s.slot y with
  |lst kd z es=>
   obtain⟨h1,h2⟩:=St.slot_lt hq
   rw[hq,←h2]at hb
   obtain⟨h3,h4⟩:=hs.own _ _ _ b (At.slot y h1) hb
   refine⟨h3,h4,hs.dropped h1 hb,fun hp=>?_⟩
   exact(hs.prot b hp).2.2.2 _ _ _ (At.slot y h1) hb
  |_=>rw[hq]at hb;cases hb
 |const v=>
  refine⟨hs,NewOk.none (none _ ?_ _)⟩
  intro z es he
  have he:uOfC v=.lst .own z es:=he
  unfold uOfC at he
  split at he
  ·rename_i x _
   unfold uOfV at he
   split at he
   ·cases he
   ·unfold uOf at he;split at he<;>cases he
  ·cases he
 |global g=>exact⟨hs,NewOk.none rfl⟩
 |func f=>exact⟨hs,NewOk.none rfl⟩
theorem zE{all l:List Oper}{d:Nat}{x:Operand}{t:TypeId}{p:String}{a:Array Edge}{Q:St→Prop}(hd:Nat.blt d 1024=true)
  (k:WpO P is orc all l (s.asg d x) Q):WpO P is orc all (⟨some d,.assign x,t,p,a,none⟩::l) s Q:=by
 intro Pr φ S tm H hs
 obtain⟨h1,h2⟩:=zHA hs x
 obtain⟨s2,tm2,H2,φ2,S2,⟨n2,k1⟩,k2⟩:=k Pr φ S _ H (h1.put (yu hd) (zK hs x) h2)
 exact⟨s2,tm2,H2,φ2,S2,⟨n2,fun n hn=>k1 n hn⟩,k2⟩
theorem wD{all l:List Oper}{d:Nat}{c x y:Operand}{t:TypeId}{p:String}{a:Array Edge}{b:Bool}{Q:St→Prop}(hd:Nat.blt d 1024=true)(hc:zQ s c=.bool b)(hb:b=true)
  (k:WpO P is orc all l (s.put d (dg (zQ s x))) Q):WpO P is orc all (⟨some d,.pick c x y,t,p,a,none⟩::l) s Q:=by
 subst hb
 refine wm hd (fun v=>yk v _) (fun Pr φ S tm H hs=>⟨zG tm x,fun E=>?_,(zK hs x).dg⟩) k
 have hv:=zK hs c
 rw[hc]at hv
 show oPick H (zG tm c) (zG tm x) (zG tm y)=_
 rw[zDI hv];rfl
theorem wY{all l:List Oper}{d:Nat}{c x y:Operand}{t:TypeId}{p:String}{a:Array Edge}{b:Bool}{Q:St→Prop}(hd:Nat.blt d 1024=true)(hc:zQ s c=.bool b)(hb:b=false)
  (k:WpO P is orc all l (s.put d (dg (zQ s y))) Q):WpO P is orc all (⟨some d,.pick c x y,t,p,a,none⟩::l) s Q:=by
 subst hb
 refine wm hd (fun v=>yk v _) (fun Pr φ S tm H hs=>⟨zG tm y,fun E=>?_,(zK hs y).dg⟩) k
 have hv:=zK hs c
 rw[hc]at hv
 show oPick H (zG tm c) (zG tm x) (zG tm y)=_
 rw[zDI hv];rfl
def I64(n:Int):Prop:= -9223372036854775808≤n∧n≤9223372036854775807
theorem wrap64{n:Int}(h:I64 n):wR .i64 n=n:=by
 obtain⟨h1,h2⟩:=h
 cases n with
 |ofNat m=>
  have h2:(m:Int)≤9223372036854775807:=h2
  have:Nat.ble m 9223372036854775807=true:=by rw[Nat.ble_eq];omega
  show cond (Nat.ble m 9223372036854775807) _ _=_
  rw[this];rfl
 |negSucc m=>
  have h1: -9223372036854775808≤ -((m:Int)+1):=by rw[←Int.negSucc_eq];exact h1
  have:Nat.ble m 9223372036854775807=true:=by rw[Nat.ble_eq];omega
  show cond (Nat.ble m 9223372036854775807) _ _=_
  rw[this];rfl
theorem zDs{all l:List Oper}{d:Nat}{op:BinOp}{x y:Operand}{xt yt t:TypeId}{p:String}{e:Array Edge}{k k':IntKind}{a b:Int}{v:V}{u:U}{Q:St→Prop}(hd:Nat.blt d 1024=true)
  (hx:zQ s x=.int k a) (hy:zQ s y=.int k' b) (hv:intOp op k a k' b=some v) (hu:u=uOf v) (hk:WpO P is orc all l (s.put d u) Q):WpO P is orc all (⟨some d,.binOp op xt x y yt,t,p,e,none⟩::l) s Q:=by
 subst hu
 refine wm hd (fun w=>?_) (fun Pr φ S tm H hs=>⟨v,fun E=>?_,uOf_rel v⟩) hk
 ·cases v<;>rfl
 ·have h1:=zK hs x
  have h2:=zK hs y
  rw[hx]at h1;rw[hy]at h2
  show zt H (binV P xt op (zG tm x) (zG tm y))=_
  rw[zCE h1,zCE h2]
  show zt H (intOp op k a k' b)=_
  rw[hv];rfl
theorem o_add{all l:List Oper}{d:Nat}{x y:Operand}{xt yt t:TypeId}{p:String}{e:Array Edge}{a b:Int}{Q:St→Prop}(hd:Nat.blt d 1024=true)
  (hx:zQ s x=.int .i64 a) (hy:zQ s y=.int .i64 b) (hr:I64 (a+b)) (hk:WpO P is orc all l (s.put d (.int .i64 (a+b))) Q):WpO P is orc all (⟨some d,.binOp .add xt x y yt,t,p,e,none⟩::l) s Q:=
 zDs hd hx hy (v:=.int .i64 (a+b)) (by show some (V.int .i64 (wR .i64 (a+b)))=_;rw[wrap64 hr]) rfl hk
theorem zDc{all l:List Oper}{d:Nat}{x y:Operand}{xt yt t:TypeId}{p:String}{e:Array Edge}{a b:Int}{Q:St→Prop}(hd:Nat.blt d 1024=true)
  (hx:zQ s x=.int .i64 a) (hy:zQ s y=.int .i64 b) (hr:I64 (a - b)) (hk:WpO P is orc all l (s.put d (.int .i64 (a - b))) Q):WpO P is orc all (⟨some d,.binOp .sub xt x y yt,t,p,e,none⟩::l) s Q:=
 zDs hd hx hy (v:=.int .i64 (a - b)) (by show some (V.int .i64 (wR .i64 (a - b)))=_;rw[wrap64 hr]) rfl hk
theorem o_rem{all l:List Oper}{d:Nat}{x y:Operand}{xt yt t:TypeId}{p:String}{e:Array Edge}{a b:Int}{Q:St→Prop}(hd:Nat.blt d 1024=true)
  (hx:zQ s x=.int .i64 a) (hy:zQ s y=.int .i64 b) (hr:b≠0) (hk:WpO P is orc all l (s.put d (.int .i64 (a.tmod b))) Q):WpO P is orc all (⟨some d,.binOp .rem xt x y yt,t,p,e,none⟩::l) s Q:=
 zDs hd hx hy (v:=.int .i64 (a.tmod b)) (by show cond (ieq b 0) none (some (V.int .i64 (a.tmod b)))=_;rw[zAT,show(b==0)=false by simpa using hr];rfl) rfl hk
theorem o_eql{all l:List Oper}{d:Nat}{x y:Operand}{xt yt t:TypeId}{p:String}{e:Array Edge}{k:IntKind}{a b:Int}{Q:St→Prop}(hd:Nat.blt d 1024=true)
  (hx:zQ s x=.int k a) (hy:zQ s y=.int k b) (hk:WpO P is orc all l (s.put d (.bool (decide (a=b)))) Q):WpO P is orc all (⟨some d,.binOp .eql xt x y yt,t,p,e,none⟩::l) s Q:=
 zDs hd hx hy (v:=.bool (decide (a=b))) (by show cond (kEq k k) (some (V.bool (ieq a b))) none=_;rw[zAT,show kEq k k=true by cases k<;>rfl];simp[cond];rfl) rfl hk
theorem o_neq{all l:List Oper}{d:Nat}{x y:Operand}{xt yt t:TypeId}{p:String}{e:Array Edge}{k:IntKind}{a b:Int}{Q:St→Prop}(hd:Nat.blt d 1024=true)
  (hx:zQ s x=.int k a) (hy:zQ s y=.int k b) (hk:WpO P is orc all l (s.put d (.bool (decide (a≠b)))) Q):WpO P is orc all (⟨some d,.binOp .neq xt x y yt,t,p,e,none⟩::l) s Q:=
 zDs hd hx hy (v:=.bool (decide (a≠b))) (by show cond (kEq k k) (some (V.bool (!ieq a b))) none=_;rw[zAT,show kEq k k=true by cases k<;>rfl];simp[cond];rfl) rfl hk
theorem o_lss{all l:List Oper}{d:Nat}{x y:Operand}{xt yt t:TypeId}{p:String}{e:Array Edge}{k:IntKind}{a b:Int}{Q:St→Prop}(hd:Nat.blt d 1024=true)
  (hx:zQ s x=.int k a) (hy:zQ s y=.int k b) (hk:WpO P is orc all l (s.put d (.bool (decide (a<b)))) Q):WpO P is orc all (⟨some d,.binOp .lss xt x y yt,t,p,e,none⟩::l) s Q:=
 zDs hd hx hy (v:=.bool (decide (a<b))) (by show cond (kEq k k) (some (V.bool (!ile b a))) none=_;rw[zCj,show kEq k k=true by cases k<;>rfl];show some _=some _;congr 2;simp[←decide_not]) rfl hk
theorem o_leq{all l:List Oper}{d:Nat}{x y:Operand}{xt yt t:TypeId}{p:String}{e:Array Edge}{k:IntKind}{a b:Int}{Q:St→Prop}(hd:Nat.blt d 1024=true)
  (hx:zQ s x=.int k a) (hy:zQ s y=.int k b) (hk:WpO P is orc all l (s.put d (.bool (decide (a≤b)))) Q):WpO P is orc all (⟨some d,.binOp .leq xt x y yt,t,p,e,none⟩::l) s Q:=
 zDs hd hx hy (v:=.bool (decide (a≤b))) (by show cond (kEq k k) (some (V.bool (ile a b))) none=_;rw[zCj,show kEq k k=true by cases k<;>rfl];rfl) rfl hk
theorem o_gtr{all l:List Oper}{d:Nat}{x y:Operand}{xt yt t:TypeId}{p:String}{e:Array Edge}{k:IntKind}{a b:Int}{Q:St→Prop}(hd:Nat.blt d 1024=true)
  (hx:zQ s x=.int k a) (hy:zQ s y=.int k b) (hk:WpO P is orc all l (s.put d (.bool (decide (b<a)))) Q):WpO P is orc all (⟨some d,.binOp .gtr xt x y yt,t,p,e,none⟩::l) s Q:=
 zDs hd hx hy (v:=.bool (decide (b<a))) (by show cond (kEq k k) (some (V.bool (!ile a b))) none=_;rw[zCj,show kEq k k=true by cases k<;>rfl];show some _=some _;congr 2;simp[←decide_not]) rfl hk
theorem o_geq{all l:List Oper}{d:Nat}{x y:Operand}{xt yt t:TypeId}{p:String}{e:Array Edge}{k:IntKind}{a b:Int}{Q:St→Prop}(hd:Nat.blt d 1024=true)
  (hx:zQ s x=.int k a) (hy:zQ s y=.int k b) (hk:WpO P is orc all l (s.put d (.bool (decide (b≤a)))) Q):WpO P is orc all (⟨some d,.binOp .geq xt x y yt,t,p,e,none⟩::l) s Q:=
 zDs hd hx hy (v:=.bool (decide (b≤a))) (by show cond (kEq k k) (some (V.bool (ile b a))) none=_;rw[zCj,show kEq k k=true by cases k<;>rfl];rfl) rfl hk
theorem zCp{all l:List Oper}{d:Nat}{x:Operand}{xt t:TypeId}{p:String}{e:Array Edge}{b:Bool}{Q:St→Prop}(hd:Nat.blt d 1024=true)
  (hx:zQ s x=.bool b) (hk:WpO P is orc all l (s.put d (.bool (!b))) Q):WpO P is orc all (⟨some d,.unOp .not xt x,t,p,e,none⟩::l) s Q:=by
 refine wm hd (fun w=>rfl) (fun Pr φ S tm H hs=>⟨.bool (!b),fun E=>?_,.bool _⟩) hk
 have h1:=zK hs x
 rw[hx]at h1
 show zt H (unV .not (zG tm x))=_
 rw[zDI h1];rfl
end Vam
