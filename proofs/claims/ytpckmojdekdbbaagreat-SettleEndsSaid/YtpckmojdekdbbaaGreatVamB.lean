import Derived.Test.YtpckmojdekdbbaaGreatVamA
import Derived.CallsIn
import Derived.RangeFuncIn
import Derived.DefersIn
import Derived.OrdersIn
import Derived.ChangeKeysEq
set_option linter.unusedVariables false
set_option linter.unusedSimpArgs false
namespace Vam
open Go
theorem D.num_lt(d:D):d.num<16:=by cases d<;>decide
theorem D.num_inj{a b:D}(h:a.num=b.num):a=b:=by cases a<;>cases b<;>first|rfl|(exact absurd h (by decide))
noncomputable instance:DecidableEq D:=fun a b=>if h:a.num=b.num then isTrue (D.num_inj h)else isFalse (fun e=>h (e ▸ rfl))
noncomputable instance:DecidableEq Id:=fun a b=>Classical.propDecidable (a=b)
theorem RowV.get_set(x:V)(d d':D)(t:RowV):RowV.get d (RowV.set d' x t)=if d=d' then x else RowV.get d t:=by
 cases t<;>cases d<;>cases d'<;>rfl
theorem RowW.get_set(x:RowV)(d d':D)(t:RowW):RowW.get d (RowW.set d' x t)=if d=d' then x else RowW.get d t:=by
 cases t<;>cases d<;>cases d'<;>rfl
theorem Tr1.get_set(x:(Option Blk))(d d':D)(t:Tr1):Tr1.get d (Tr1.set d' x t)=if d=d' then x else Tr1.get d t:=by
 cases t<;>cases d<;>cases d'<;>rfl
theorem Tr2.get_set(x:Tr1)(d d':D)(t:Tr2):Tr2.get d (Tr2.set d' x t)=if d=d' then x else Tr2.get d t:=by
 cases t<;>cases d<;>cases d'<;>rfl
theorem Tr3.get_set(x:Tr2)(d d':D)(t:Tr3):Tr3.get d (Tr3.set d' x t)=if d=d' then x else Tr3.get d t:=by
 cases t<;>cases d<;>cases d'<;>rfl
theorem Tr4.get_set(x:Tr3)(d d':D)(t:Tr4):Tr4.get d (Tr4.set d' x t)=if d=d' then x else Tr4.get d t:=by
 cases t<;>cases d<;>cases d'<;>rfl
theorem Tr.get_set(x:Tr4)(d d':Nat)(t:Tr):Tr.get d (Tr.set d' x t)=if d=d' then x else Tr.get d t:=by
 induction d' generalizing t d with
 |zero=>
  cases d with
  |zero=>cases t<;>rfl
  |succ d=>cases t<;>rfl
 |succ d' ih=>
  have e:∀t,Tr.set (d'+1) x t=Tr.putS (Tr.set d' x) t:=fun _=>rfl
  rw[e]
  cases d with
  |zero=>cases t<;>rfl
  |succ d=>
   cases t with
   |leaf=>
    have:=ih d .leaf
    show Tr.get d (Tr.set d' x .leaf)=_
    rw[this];simp;rfl
   |node y r=>
    have:=ih d r
    show Tr.get d (Tr.set d' x r)=_
    rw[this];simp;rfl
def Id.wf:Id→Prop
 | .mk num a b c d e=>num=(((a*16+b.num)*16+c.num)*16+d.num)*16+e.num
 | .over=>False
theorem Id.wf_inj{x y:Id}(hx:x.wf)(hy:y.wf)(h:x.num=y.num):x=y:=by
 cases x with
 |over=>exact hx.elim
 |mk n a b c d e=>
  cases y with
  |over=>exact hy.elim
  |mk m a' b' c' d' e'=>
   simp only[Id.wf]at hx hy
   change n=m at h
   subst h
   have:=b.num_lt;have:=c.num_lt;have:=d.num_lt;have:=e.num_lt
   have:=b'.num_lt;have:=c'.num_lt;have:=d'.num_lt;have:=e'.num_lt
   rw[show a=a' by omega,D.num_inj (a:=b) (b:=b') (by omega),D.num_inj (a:=c) (b:=c') (by omega),D.num_inj (a:=d) (b:=d') (by omega),D.num_inj (a:=e) (b:=e') (by omega)]
theorem D.next_cases{α:Type}(over:α)(f:D→α)(d:D):(d=.d15∧D.next over f d=over)∨(∃d',d'.num=d.num+1∧D.next over f d=f d'):=by
 cases d<;>first|(left;exact⟨rfl,rfl⟩)|(right;exact⟨_,rfl,rfl⟩)
theorem Id.next_ok{n:Id}(h:n.wf):n.next.wf∧n.next.num=n.num+1:=by
 cases n with
 |over=>exact h.elim
 |mk k a b c d e=>
  simp only[Id.wf]at h
  have H:∀(r:Id),(Id.mk k a b c d e).next=r→(r.wf∧r.num=k+1):=by
   intro r hr
   change D.next _ _ e=r at hr
   rcases D.next_cases (D.next (D.next (D.next (Id.mk (Nat.succ k) (Nat.succ a) .d0 .d0 .d0 .d0) (fun b=>.mk (Nat.succ k) a b .d0 .d0 .d0) b) (fun c=>.mk (Nat.succ k) a b c .d0 .d0) c) (fun d=>.mk (Nat.succ k) a b c d .d0) d) (fun e=>.mk (Nat.succ k) a b c d e) e with ⟨he,h1⟩|⟨e',he,h1⟩
   ·rw[h1]at hr
    rcases D.next_cases (D.next (D.next (Id.mk (Nat.succ k) (Nat.succ a) .d0 .d0 .d0 .d0) (fun b=>.mk (Nat.succ k) a b .d0 .d0 .d0) b) (fun c=>.mk (Nat.succ k) a b c .d0 .d0) c) (fun d=>.mk (Nat.succ k) a b c d .d0) d with ⟨hd,h2⟩|⟨d',hd,h2⟩
    ·rw[h2]at hr
     rcases D.next_cases (D.next (Id.mk (Nat.succ k) (Nat.succ a) .d0 .d0 .d0 .d0) (fun b=>.mk (Nat.succ k) a b .d0 .d0 .d0) b) (fun c=>.mk (Nat.succ k) a b c .d0 .d0) c with ⟨hc,h3⟩|⟨c',hc,h3⟩
     ·rw[h3]at hr
      rcases D.next_cases (Id.mk (Nat.succ k) (Nat.succ a) .d0 .d0 .d0 .d0) (fun b=>.mk (Nat.succ k) a b .d0 .d0 .d0) b with ⟨hb,h4⟩|⟨b',hb,h4⟩
      ·rw[h4]at hr;subst hr hb hc hd he
       exact⟨by simp only[Id.wf,D.num]at*;omega,rfl⟩
      ·rw[h4]at hr;subst hr hc hd he
       exact⟨by simp only[Id.wf,D.num]at*;omega,rfl⟩
     ·rw[h3]at hr;subst hr hd he
      exact⟨by simp only[Id.wf,D.num]at*;omega,rfl⟩
    ·rw[h2]at hr;subst hr he
     exact⟨by simp only[Id.wf,D.num]at*;omega,rfl⟩
   ·rw[h1]at hr;subst hr
    exact⟨by simp only[Id.wf]at*;omega,rfl⟩
  exact H _ rfl
theorem Id.next_wf{n:Id}(h:n.wf):n.next=.over∨(n.next.wf∧n.next.num=n.num+1):=.inr (Id.next_ok h)
theorem Tr.at_put(x:Option Blk)(t:Tr)(a:Nat)(b c d e:D)(a':Nat)(b' c' d' e':D):
  Tr.at (Tr.put x t a' b' c' d' e') a b c d e=if a=a'∧b=b'∧c=c'∧d=d'∧e=e' then x else Tr.at t a b c d e:=by
 simp only[Tr.at,Tr.put,Tr.put1,Tr.put2,Tr.put3,Tr.put4,Tr.get_set,Tr4.get_set,Tr3.get_set,Tr2.get_set,Tr1.get_set]
 by_cases ha:a=a'
 ·subst ha
  simp only[if_true,Tr4.get_set,Tr3.get_set,Tr2.get_set,Tr1.get_set]
  by_cases hb:b=b'
  ·subst hb
   simp only[if_true,Tr3.get_set,Tr2.get_set,Tr1.get_set]
   by_cases hc:c=c'
   ·subst hc
    simp only[if_true,Tr2.get_set,Tr1.get_set]
    by_cases hd:d=d'
    ·subst hd
     simp only[if_true,Tr1.get_set]
     by_cases he:e=e'<;>simp[he]
    ·simp[hd]
   ·simp[hc]
  ·simp[hb]
 ·simp[ha]
def Before(b n:Id):Prop:=match n with
 | .mk k .. =>b.num<k
 | .over=>True
def Id.okN(n:Id):Prop:=n.wf
theorem Before.next{b n:Id}(hn:n.wf)(h:Before b n):Before b n.next:=by
 rcases Id.next_wf hn with h1|⟨h1,h2⟩
 ·rw[h1];trivial
 ·cases hx:n.next with
  |over=>trivial
  |mk k a b' c d e=>
   rw[hx]at h2
   cases n with
   |over=>exact hn.elim
   |mk m _ _ _ _ _=>
    change b.num<m at h
    change k=m+1 at h2
    show b.num<k
    omega
theorem Before.self{n:Id}(hn:n.wf):Before n n.next:=by
 rcases Id.next_wf hn with h1|⟨h1,h2⟩
 ·rw[h1];trivial
 ·cases hx:n.next with
  |over=>trivial
  |mk k a b' c d e=>
   rw[hx]at h2
   change k=n.num+1 at h2
   show n.num<k
   omega
theorem zU{n:Id}(hn:n.wf): ¬ Before n n:=by
 cases n with
 |over=>exact hn.elim
 |mk m _ _ _ _ _=>exact Nat.lt_irrefl _
theorem Id.okN_next{n:Id}(hn:n.wf):n.next.okN:=(Id.next_ok hn).1
theorem CH.get_mk(n:Id)(f:Nat)(t:Tr)(k a:Nat)(b c d e:D):CH.get (.mk n f t) (.mk k a b c d e)=Tr.at t a b c d e:=rfl
theorem CH.get_over(H:CH):H.get .over=none:=by cases H;rfl
theorem CH.set_some{H H':CH}{i:Id}{x:Blk}(h:H.set i x=some H')(hi:i.wf):
  H'.n=H.n∧H'.fz=H.fz∧H.fz≤i.num∧∀j:Id,j.wf→H'.get j=if j=i then some x else H.get j:=by
 cases H with
 |mk n f t=>
  cases i with
  |over=>exact hi.elim
  |mk k a b c d e=>
   change cond (Nat.ble f k) _ none=some H' at h
   cases hb:Nat.ble f k with
   |false=>rw[hb]at h;exact absurd h (by simp[cond])
   |true=>
    rw[hb]at h
    simp only[cond,Option.some.injEq]at h
    subst h
    refine⟨rfl,rfl,Nat.le_of_ble_eq_true hb,?_⟩
    intro j hj
    cases j with
    |over=>exact hj.elim
    |mk k' a' b' c' d' e'=>
     rw[CH.get_mk,CH.get_mk,Tr.at_put]
     by_cases hh:a'=a∧b'=b∧c'=c∧d'=d∧e'=e
     ·obtain⟨rfl,rfl,rfl,rfl,rfl⟩:=hh
      have:(Id.mk k' a' b' c' d' e')=Id.mk k a' b' c' d' e':=Id.wf_inj hj hi (by simp only[Id.wf]at hi hj;show k'=k;omega)
      simp[this]
     ·rw[if_neg hh,if_neg]
      intro he
      simp only[Id.mk.injEq]at he
      exact hh he.2
theorem wK{α:Type}{no:α}{H:CH}{x:Blk}{k:Id→CH→α}{r:α}(h:alloc no H x k=r)(hr:r≠no)(hn:H.n.okN):
  ∃H':CH,k H.n H'=r∧H.n.wf∧H'.n=H.n.next∧H'.fz=H.fz∧∀j:Id,j.wf→H'.get j=if j=H.n then some x else H.get j:=by
 cases H with
 |mk n f t=>
  cases n with
  |over=>exact absurd h.symm hr
  |mk m a b c d e=>
   have hw:(Id.mk m a b c d e).wf:=hn
   refine⟨.mk (Id.next (.mk m a b c d e)) f (Tr.put (some x) t a b c d e),h,hw,rfl,rfl,?_⟩
   intro j hj
   show _=if j=Id.mk m a b c d e then _ else _
   cases j with
   |over=>exact hj.elim
   |mk k' a' b' c' d' e'=>
    rw[CH.get_mk,CH.get_mk,Tr.at_put]
    by_cases hh:a'=a∧b'=b∧c'=c∧d'=d∧e'=e
    ·obtain⟨rfl,rfl,rfl,rfl,rfl⟩:=hh
     have:(Id.mk k' a' b' c' d' e')=Id.mk m a' b' c' d' e':=Id.wf_inj hj hw (by simp only[Id.wf]at hw hj;show k'=m;omega)
     simp[this]
    ·rw[if_neg hh,if_neg]
     intro he
     simp only[Id.mk.injEq]at he
     exact hh he.2
end Vam
namespace Vam
open Go
structure Loc where
 r:Nat
 o:Nat
 m:Nat
abbrev Phi:=Id→Option Loc
inductive T where
 |v (x:Value)
 |l (xs:List Value)
def CapOk(k:Loc)(off len cc sz cap:Nat):Prop:=
 len≤capN cc∧(capE cc=true→cap=capN cc)∧(capE cc=false→capN cc≤cap∧off+cap*sz≤k.m)
inductive RR(φ:Phi):V→T→Prop where
 |bool (b:Bool):RR φ (.bool b) (.v (.bool b))
 |int (k:IntKind) (n:Int):RR φ (.int k n) (.v (.int k n))
 |str (s:ByteArray):RR φ (.str (bytesOf s)) (.v (.string s))
 |ptr (b:Id) (off:Nat) (k:Loc):φ b=some k→RR φ (.ptr b off) (.v (.pointer (some ⟨k.r,k.o+off,none⟩)))
 |glob (n:Nat):RR φ (.ptr .over n) (.v (.pointer (some ⟨n / 4096,n % 4096,none⟩)))
 |nilp:RR φ .nilp (.v (.pointer none))
 |slice (b:Id) (off len cc sz cap:Nat) (k:Loc):φ b=some k→CapOk k off len cc sz cap→
   RR φ (.slice b off len cc sz) (.v (.slice (some ⟨k.r,k.o+off,none⟩) len cap))
 |empty (sz:Nat) (a:Addr):RR φ (.slice .over 0 0 (capX 0) sz) (.v (.slice (some a) 0 0))
 |loose (sz:Nat) (a:Addr) (c:Nat):RR φ (.slice .over 0 0 (capA 0) sz) (.v (.slice (some a) 0 c))
 |nils:RR φ .nils (.v (.slice none 0 0))
 |map (b:Id) (k:Loc):φ b=some k→RR φ (.map b) (.v (.map (some k.r)))
 |nilm:RR φ .nilm (.v (.map none))
 |func (f:FuncId) (a b:V) (A B:Array Value):RR φ a (.l A.toList)→RR φ b (.l B.toList)→RR φ (.func f a b) (.v (.func (.func f) A B))
 |yield (b:Id) (k:Loc):φ b=some k→RR φ (.yield b) (.v (.func (.yield k.r) #[] #[]))
 |nilf:RR φ .nilf (.v .nilFunc)
 |agg (l:V) (cs:Array Value):RR φ l (.l cs.toList)→RR φ (.agg l) (.v (.agg cs))
 |tup (l:V) (cs:Array Value):RR φ l (.l cs.toList)→RR φ (.tup l) (.v (.tuple cs))
 |nil:RR φ .nil (.l [])
 |cons (x l:V) (v:Value) (vs:List Value):RR φ x (.v v)→RR φ l (.l vs)→RR φ (.cons x l) (.l (v::vs))
abbrev VR(φ:Phi)(v:V)(x:Value):Prop:=RR φ v (.v x)
abbrev LR(φ:Phi)(v:V)(xs:List Value):Prop:=RR φ v (.l xs)
def Phi.le(φ ψ:Phi):Prop:=∀b k,φ b=some k→ψ b=some k
theorem Phi.le_refl(φ:Phi):φ.le φ:=fun _ _ h=>h
theorem Phi.le_trans{φ ψ χ:Phi}(h:φ.le ψ)(k:ψ.le χ):φ.le χ:=fun b l hb=>k b l (h b l hb)
theorem RR.mono{φ ψ:Phi}(hle:φ.le ψ){v:V}{t:T}(h:RR φ v t):RR ψ v t:=by
 induction h with
 |bool b=>exact .bool b
 |int k n=>exact .int k n
 |str s=>exact .str s
 |ptr b off k hk=>exact .ptr b off k (hle _ _ hk)
 |glob n=>exact .glob n
 |nilp=>exact .nilp
 |slice b off len cc sz cap k hk hc=>exact .slice b off len cc sz cap k (hle _ _ hk) hc
 |empty sz a=>exact .empty sz a
 |loose sz a c=>exact .loose sz a c
 |nils=>exact .nils
 |map b k hk=>exact .map b k (hle _ _ hk)
 |nilm=>exact .nilm
 |func f a b A B _ _ iha ihb=>exact .func f a b A B iha ihb
 |yield b k hk=>exact .yield b k (hle _ _ hk)
 |nilf=>exact .nilf
 |agg l cs _ ih=>exact .agg l cs ih
 |tup l cs _ ih=>exact .tup l cs ih
 |nil=>exact .nil
 |cons x l v vs _ _ ih1 ih2=>exact .cons x l v vs ih1 ih2
def TmR(φ:Phi)(tm:TT)(tmps:Array Value):Prop:=tmps.size≤1024∧∀i,i<tmps.size→VR φ (tm.get i) (tmps.getD i Go.undef)
theorem TmR.mono{φ ψ:Phi}(hle:φ.le ψ){tm:TT}{tmps:Array Value}(h:TmR φ tm tmps):TmR ψ tm tmps:=
 ⟨h.1,fun i hi=>(h.2 i hi).mono hle⟩
theorem D.of_num(n:Nat)(h:n<16):(D.of n).num=n:=by
 have key:∀m:Fin 16,(D.of m.1).num=m.1:=by
  intro⟨m,hm⟩
  have:m=0∨m=1∨m=2∨m=3∨m=4∨m=5∨m=6∨m=7∨m=8∨m=9∨m=10∨m=11∨m=12∨m=13∨m=14∨m=15:=by omega
  rcases this with h|h|h|h|h|h|h|h|h|h|h|h|h|h|h|h<;>subst h<;>rfl
 exact key ⟨n,h⟩
theorem D.of_inj{a b:Nat}(ha:a<16)(hb:b<16)(h:D.of a=D.of b):a=b:=by
 have:=congrArg D.num h
 rwa [D.of_num a ha,D.of_num b hb]at this
theorem Q4.of_inj{a b:Nat}(ha:a<4)(hb:b<4)(h:Q4.of a=Q4.of b):a=b:=by
 have key:∀x y:Fin 4,Q4.of x.1=Q4.of y.1→x.1=y.1:=by
  intro⟨x,hx⟩ ⟨y,hy⟩ h
  have:x=0∨x=1∨x=2∨x=3:=by omega
  have:y=0∨y=1∨y=2∨y=3:=by omega
  rcases ‹x=0∨_› with rfl|rfl|rfl|rfl<;>rcases ‹y=0∨_› with rfl|rfl|rfl|rfl<;>first|rfl|(exact absurd h (by intro e;cases e))
 exact key ⟨a,ha⟩ ⟨b,hb⟩ h
theorem slot_inj{i j:Nat}(hi:i<1024)(hj:j<1024)(h:Q4.of (i / 256)=Q4.of (j / 256)∧D.of (i / 16 % 16)=D.of (j / 16 % 16)∧D.of (i % 16)=D.of (j % 16)):i=j:=by
 have h1:=Q4.of_inj (by omega) (by omega) h.1
 have h2:=D.of_inj (by omega) (by omega) h.2.1
 have h3:=D.of_inj (by omega) (by omega) h.2.2
 omega
theorem TT.get_eq(t:TT)(i:Nat):t.get i=RR.get (TT.part (Q4.of (i / 256)) t) (D.of (i / 16 % 16)) (D.of (i % 16)):=rfl
theorem TT.set_eq(x:V)(t:TT)(i:Nat):TT.set x t i=TT.put (Q4.of (i / 256)) (RR.set x (TT.part (Q4.of (i / 256)) t) (D.of (i / 16 % 16)) (D.of (i % 16))) t:=rfl
instance :DecidableEq Q4:=fun a b=>by cases a<;>cases b<;>first|exact isTrue rfl|exact isFalse (by intro e;cases e)
theorem TT.part_put(q q':Q4)(r:RowW)(t:TT):TT.part q (TT.put q' r t)=if q'=q then r else TT.part q t:=by
 cases t;cases q<;>cases q'<;>simp[TT.part,TT.put,TT.p0,TT.p1,TT.p2,TT.p3,TT.u0,TT.u1,TT.u2,TT.u3]
theorem RR.get_set(x:V)(t:RowW)(hi lo hi' lo':D):Vam.RR.get (Vam.RR.set x t hi lo) hi' lo'=if hi'=hi∧lo'=lo then x else Vam.RR.get t hi' lo':=by
 simp only[Vam.RR.get,Vam.RR.set,RowW.get_set]
 by_cases h:hi'=hi
 ·subst h;simp only[if_true,RowV.get_set,true_and]
 ·simp[h]
theorem TT.get_set(x:V)(t:TT)(i j:Nat)(hi:i<1024)(hj:j<1024):(TT.set x t i).get j=if j=i then x else t.get j:=by
 rw[TT.set_eq,TT.get_eq,TT.part_put]
 by_cases hq:Q4.of (i / 256)=Q4.of (j / 256)
 ·rw[if_pos hq,RR.get_set]
  by_cases hd:D.of (j / 16 % 16)=D.of (i / 16 % 16)∧D.of (j % 16)=D.of (i % 16)
  ·rw[if_pos hd,if_pos (slot_inj hj hi ⟨hq.symm,hd⟩)]
  ·rw[if_neg hd,if_neg (by rintro rfl;exact hd ⟨rfl,rfl⟩),TT.get_eq,←hq]
 ·rw[if_neg hq,if_neg (by rintro rfl;exact hq rfl),TT.get_eq]
theorem TT.get_leaf(i:Nat):TT.leaf.get i=undef:=by
 rw[TT.get_eq]
 generalize Q4.of (i / 256)=q;generalize D.of (i / 16 % 16)=a;generalize D.of (i % 16)=b
 cases q<;>cases a<;>cases b<;>rfl
theorem zEG(φ:Phi):VR φ undef Go.undef:=.tup .nil #[] .nil
theorem TmR.set{φ:Phi}{tm:TT}{tmps:Array Value}(h:TmR φ tm tmps){d:Nat}{x:V}{v:Value}(hd:d<tmps.size)(hx:VR φ x v):
  TmR φ (TT.set x tm d) (tmps.setIfInBounds d v):=by
 refine⟨by simpa using h.1,fun i hi=>?_⟩
 rw[Array.size_setIfInBounds]at hi
 rw[TT.get_set x tm d i (by have:=h.1;omega) (by have:=h.1;omega)]
 by_cases e:i=d
 ·subst e
  simp[hd,hx,Array.getD]
 ·rw[if_neg e]
  have:=h.2 i hi
  have e2:(tmps.setIfInBounds d v).getD i Go.undef=tmps.getD i Go.undef:=by
   rw[Array.getD_eq_getD_getElem?,Array.getD_eq_getD_getElem?,Array.getElem?_setIfInBounds_ne (by omega)]
  rwa [e2]
def Wr:Blk→Prop
 | .cells _ _ st _=>st=0
 | .arg _=>False
 |_=>True
def lenL:V→Nat
 | .cons _ l=>lenL l+1
 |_=>0
def CellsAt(φ:Phi)(cs:V)(k:Loc)(arr:Array Value):Prop:=
 k.o+k.m≤arr.size∧lenL cs≤k.m∧∃vs,LR φ cs vs∧∀i v,vs[i]? =some v→arr[k.o+i]? =some v
inductive EntsR(φ:Phi):List Ent→List MapEntry→Prop where
 |nil:EntsR φ [] []
 |cons (e:Ent) (r:MapEntry) (es:List Ent) (rs:List MapEntry):VR φ e.key r.key→VR φ e.val r.val→EntsR φ es rs→EntsR φ (e::es) (r::rs)
def BlkR(P:Program)(φ:Phi)(x:Blk)(k:Loc)(o:Option Obj):Prop:=match x with
 | .cells cs _ st sh=>st=2∨((∃arr el,o=some (.cells arr el (0,0))∧CellsAt φ cs k arr)∧∀s∈sh,s.wf)
 | .arg cs=>∃arr el fr,o=some (.cells arr el fr)∧CellsAt φ cs k arr
 | .map es _=>∃rs c,o=some (.map rs c)∧EntsR φ es rs.toList
 | .loop s pe _ tm ps assign body d=>∃(tmps:Array Value) (kd:Loc) (fn:FuncId),φ d=some kd∧
   o=some (.loop {state:=s,pending:=pe,fn,tmps,params:=ps.toArray,assign,body,defers:=kd.r})∧TmR φ tm tmps∧
   yh P tmps.size assign=true∧yh P tmps.size body=true∧(∀t∈ps,t<tmps.size)∧(∀c,pe=some c→∀n,yh P n c=true)
 | .dfr taken=>o=some (.deferred (if taken then none else some []))
def Dead:Blk→Prop
 | .cells _ _ st _=>st=2
 |_=>False
def Under(b:Id)(xb:Blk)(l:Loc)(xc:Blk)(k:Loc):Prop:=
 ∃cs e sh cs' e' sh',xc=.cells cs e 0 sh∧b∈sh∧xb=.cells cs' e' 1 sh'∧l.o+lenL cs'≤k.o+lenL cs
def Sep(b:Id)(xb:Blk)(l:Loc)(c:Id)(xc:Blk)(k:Loc):Prop:=
 Dead xb∨Dead xc∨(¬ Wr xb∧ ¬ Wr xc)∨Under b xb l xc k∨Under c xc k xb l
def WrAt(H:CH)(b:Id):Prop:=H.fz≤b.num∧∃x,H.get b=some x∧Wr x
def GInv(φ:Phi)(H:CH)(w:World):Prop:=∀g cs,gtab g=some cs→g<w.heap.size∧(∃arr el fr,w.heap[g]? =some (.cells arr el fr)∧CellsAt (fun _=>none) cs ⟨g,0,lenL cs⟩ arr)∧∀b k x,φ b=some k→H.get b=some x→Wr x→k.r≠g
structure Rel4(P:Program)(φ:Phi)(H:CH)(w:World):Prop where
 nok:H.n.okN
 wf:∀b k,φ b=some k→b.wf∧Before b H.n∧k.r<w.heap.size
 blk:∀b k,φ b=some k→∃x,H.get b=some x∧BlkR P φ x k (w.heap[k.r]?)
 sep:∀b c l k x y,φ b=some l→φ c=some k→b≠c→l.r=k.r→H.get b=some x→H.get c=some y→
  Sep b x l c y k
structure Rel(P:Program)(φ:Phi)(H:CH)(w:World):Prop extends Rel4 P φ H w where
 gl:GInv φ H w
def zBk:Obj→Prop
 | .cells _ _ fr=>fr=(0,0)
 |_=>True
theorem zBf{w:World}{a:Addr}(h:∀o,w.heap[a.block]? =some o→zBk o):w.frozen? a=false:=by
 unfold World.frozen?
 cases ho:w.heap[a.block]? with
 |none=>rfl
 |some o=>
  have hp:=h o ho
  cases o with
  |cells c t fr=>obtain rfl:fr=(0,0):=hp;simp
  |_=>rfl
theorem zFT{w w':World}{a:Addr}(h:w'.heap[a.block]? =w.heap[a.block]?):w'.frozen? a=w.frozen? a:=by
 unfold World.frozen?;rw[h]
theorem zGs(w:World){o:Obj}(ho:zBk o)(a:Addr):({w with heap:=w.heap.push o}:World).frozen? a=w.frozen? a:=by
 by_cases h:a.block=w.heap.size
 ·rw[zBf (w:={w with heap:=w.heap.push o}),zBf (w:=w)]
  ·intro o' h';rw[h]at h';simp at h'
  ·intro o' h'
   have h':(w.heap.push o)[a.block]? =some o':=h'
   rw[h]at h';simp at h';subst h';exact ho
 ·refine zFT ?_
  show(w.heap.push o)[a.block]? =_
  rw[Array.getElem?_push,if_neg h]
theorem zFB(w:World){r:Nat}{o₀ o:Obj}(h0:w.heap[r]? =some o₀)(p0:zBk o₀)(ho:zBk o)(a:Addr):({w with heap:=w.heap.setIfInBounds r o}:World).frozen? a=w.frozen? a:=by
 by_cases h:a.block=r
 ·obtain⟨hr,_⟩:=Array.getElem?_eq_some_iff.1 h0
  rw[zBf (w:={w with heap:=w.heap.setIfInBounds r o}),zBf (w:=w)]
  ·intro o' h';rw[h,h0]at h';cases h';exact p0
  ·intro o' h'
   have h':(w.heap.setIfInBounds r o)[a.block]? =some o':=h'
   rw[h,Array.getElem?_setIfInBounds,if_pos rfl,if_pos hr]at h';cases h';exact ho
 ·refine zFT ?_
  show(w.heap.setIfInBounds r o)[a.block]? =_
  exact Array.getElem?_setIfInBounds_ne (Ne.symm h)
def zFY(H:CH)(b:Id):Prop:=∃cs e sh,H.get b=some (.cells cs e 2 sh)
structure Ext(φ:Phi)(H:CH)(w:World)(φ':Phi)(H':CH)(w':World):Prop where
 le:φ.le φ'
 fz:H'.fz=H.fz
 newId:∀b k,φ' b=some k→φ b=none→ ¬ Before b H.n
 before:∀b,Before b H.n→Before b H'.n
 newLoc:∀b k,φ' b=some k→φ b=none→w.heap.size≤k.r∨∃c l,φ c=some l∧l.r=k.r∧WrAt H c
 frame:∀r,r<w.heap.size→(∀b k,φ b=some k→k.r=r→ ¬ WrAt H b)→w'.heap[r]? =w.heap[r]?
 ro:∀b,Before b H.n→b.wf→ ¬ WrAt H b→ ¬ WrAt H' b
 keep:∀b,Before b H.n→b.wf→b.num<H.fz→H'.get b=H.get b
 size:w.heap.size≤w'.heap.size
 os:w'.os=w.os
 tape:w'.tape=w.tape
 output:w'.output=w.output
 fro:∀a:Addr,w'.frozen? a=w.frozen? a
 dead:∀b,Before b H.n→b.wf→zFY H b→zFY H' b
theorem Ext.refl(φ:Phi)(H:CH)(w:World):Ext φ H w φ H w where
 le:=Phi.le_refl φ
 fz:=rfl
 newId:=fun b k h1 h2=>by rw[h2]at h1;cases h1
 before:=fun _ h=>h
 newLoc:=fun b k h1 h2=>by rw[h2]at h1;cases h1
 frame:=fun _ _ _=>rfl
 ro:=fun _ _ _ h=>h
 keep:=fun _ _ _ _=>rfl
 size:=Nat.le_refl _
 os:=rfl
 tape:=rfl
 output:=rfl
 fro:=fun _=>rfl
 dead:=fun _ _ _ h=>h
theorem Ext.trans{P:Program}{φ φ₁ φ₂:Phi}{H H₁ H₂:CH}{w w₁ w₂:World}(h₀:Rel P φ H w)(h:Ext φ H w φ₁ H₁ w₁)(k:Ext φ₁ H₁ w₁ φ₂ H₂ w₂):Ext φ H w φ₂ H₂ w₂ where
 le:=Phi.le_trans h.le k.le
 fz:=k.fz.trans h.fz
 newId:=fun b l h1 h2 hb=>by
  cases h3:φ₁ b with
  |none=>exact k.newId b l h1 h3 (h.before b hb)
  |some l'=>exact h.newId b l' h3 h2 hb
 before:=fun b hb=>k.before b (h.before b hb)
 newLoc:=fun b l h1 h2=>by
  cases h3:φ₁ b with
  |some l'=>
   have:l'=l:=by have:=k.le b l' h3;rw[h1]at this;exact(Option.some.inj this).symm
   subst this
   exact h.newLoc b l' h3 h2
  |none=>
   rcases k.newLoc b l h1 h3 with hl|⟨c,m,hc,hm,hw⟩
   ·exact .inl (Nat.le_trans h.size hl)
   ·cases h4:φ c with
    |some m'=>
     have:m'=m:=by have:=h.le c m' h4;rw[hc]at this;exact(Option.some.inj this).symm
     subst this
     by_cases hw0:WrAt H c
     ·exact .inr ⟨c,m',h4,hm,hw0⟩
     ·exact absurd hw (h.ro c (h₀.wf c m' h4).2.1 (h₀.wf c m' h4).1 hw0)
    |none=>
     rcases h.newLoc c m hc h4 with h5|⟨c',m',h5,h6,h7⟩
     ·exact .inl (hm ▸ h5)
     ·exact .inr ⟨c',m',h5,h6.trans hm,h7⟩
 frame:=fun r hr hall=>by
  rw[k.frame r (Nat.lt_of_lt_of_le hr h.size) ?_,h.frame r hr hall]
  intro b l hb hl hw
  cases h3:φ b with
  |some l'=>
   have:l'=l:=by have:=h.le b l' h3;rw[hb]at this;exact(Option.some.inj this).symm
   subst this
   exact h.ro b (h₀.wf b l' h3).2.1 (h₀.wf b l' h3).1 (hall b l' h3 hl) hw
  |none=>
   rcases h.newLoc b l hb h3 with h5|⟨c',m',h5,h6,h7⟩
   ·omega
   ·exact hall c' m' h5 (h6.trans hl) h7
 ro:=fun b hb hbw hw=>k.ro b (h.before b hb) hbw (h.ro b hb hbw hw)
 keep:=fun b hb hbw hf=>by rw[k.keep b (h.before b hb) hbw (by rw[h.fz];exact hf),h.keep b hb hbw hf]
 size:=Nat.le_trans h.size k.size
 os:=k.os.trans h.os
 tape:=k.tape.trans h.tape
 output:=k.output.trans h.output
 fro:=fun a=>(k.fro a).trans (h.fro a)
 dead:=fun b hb hbw hd=>k.dead b (h.before b hb) hbw (h.dead b hb hbw hd)
theorem CellsAt.mono{φ ψ:Phi}(hle:φ.le ψ){cs:V}{k:Loc}{arr:Array Value}(h:CellsAt φ cs k arr):CellsAt ψ cs k arr:=by
 obtain⟨h1,h2,vs,h3,h4⟩:=h
 exact⟨h1,h2,vs,h3.mono hle,h4⟩
theorem EntsR.mono{φ ψ:Phi}(hle:φ.le ψ){es:List Ent}{rs:List MapEntry}(h:EntsR φ es rs):EntsR ψ es rs:=by
 induction h with
 |nil=>exact .nil
 |cons e r es rs h1 h2 _ ih=>exact .cons e r es rs (h1.mono hle) (h2.mono hle) ih
theorem BlkR.mono{P:Program}{φ ψ:Phi}(hle:φ.le ψ){x:Blk}{k:Loc}{o:Option Obj}(h:BlkR P φ x k o):BlkR P ψ x k o:=by
 cases x with
 |cells cs e st sh=>
  rcases h with h|⟨⟨arr,el,h1,h2⟩,h3⟩
  ·exact .inl h
  ·exact .inr ⟨⟨arr,el,h1,h2.mono hle⟩,h3⟩
 |arg cs=>obtain⟨arr,el,fr,h1,h2⟩:=h;exact⟨arr,el,fr,h1,h2.mono hle⟩
 |map es c=>obtain⟨rs,c,h1,h2⟩:=h;exact⟨rs,c,h1,h2.mono hle⟩
 |loop s pe fn tm ps assign body d=>
  obtain⟨tmps,kd,fn',h1,h2,h3,h4⟩:=h
  exact⟨tmps,kd,fn',hle _ _ h1,h2,h3.mono hle,h4⟩
 |dfr t=>exact h
theorem GInv.step{P:Program}{φ φ':Phi}{H H':CH}{w w':World}(h:Rel P φ H w)(e:Ext φ H w φ' H' w'):GInv φ' H' w':=by
 intro g cs hg
 obtain⟨h1,⟨arr,el,fr,h2,h3⟩,h4⟩:=h.gl g cs hg
 refine⟨Nat.lt_of_lt_of_le h1 e.size,⟨arr,el,fr,?_,h3⟩,fun b k x hb hx hw hk=>?_⟩
 ·rw[e.frame g h1 fun b k hb hk hw=>by obtain⟨_,x,q1,q2⟩:=hw;exact h4 b k x hb q1 q2 hk];exact h2
 ·cases hc:φ b with
  |some l=>
   have:l=k:=by have:=e.le b l hc;rw[hb]at this;exact(Option.some.inj this).symm
   subst this
   have hwf:=h.wf b l hc
   obtain⟨y,hy,_⟩:=h.blk b l hc
   by_cases hf:H.fz≤b.num
   ·by_cases hw0:WrAt H b
    ·obtain⟨_,z,q1,q2⟩:=hw0
     exact h4 b l z hc q1 q2 hk
    ·exact e.ro b hwf.2.1 hwf.1 hw0 ⟨by rw[e.fz];exact hf,x,hx,hw⟩
   ·rw[e.keep b hwf.2.1 hwf.1 (by omega)]at hx
    exact h4 b l x hc hx hw hk
  |none=>
   rcases e.newLoc b k hb hc with h5|⟨c,l,h5,h6,_,z,q1,q2⟩
   ·omega
   ·exact h4 c l z h5 q1 q2 (h6.trans hk)
theorem Rel.and{P:Program}{φ φ':Phi}{H H':CH}{w w':World}(h:Rel P φ H w)(h4:Rel4 P φ' H' w')(e:Ext φ H w φ' H' w'):Rel P φ' H' w'∧Ext φ H w φ' H' w':=⟨⟨h4,GInv.step h e⟩,e⟩
end Vam
namespace Vam
open Go
variable {P:Program}
noncomputable def Phi.with(φ:Phi)(b:Id)(k:Loc):Phi:=fun c=>if c=b then some k else φ c
theorem Phi.with_self(φ:Phi)(b:Id)(k:Loc):φ.with b k b=some k:=by simp[Phi.with]
theorem Phi.with_ne{φ:Phi}{b c:Id}(k:Loc)(h:c≠b):φ.with b k c=φ c:=by simp[Phi.with,h]
theorem Phi.le_with{φ:Phi}{b:Id}(k:Loc)(h:φ b=none):φ.le (φ.with b k):=by
 intro c l hc
 by_cases e:c=b
 ·subst e;rw[h]at hc;cases hc
 ·rw[Phi.with_ne k e];exact hc
theorem Rel.none_at_n{φ:Phi}{H:CH}{w:World}(h:Rel P φ H w)(hn:H.n.wf):φ H.n=none:=by
 cases hx:φ H.n with
 |none=>rfl
 |some k=>exact absurd (h.wf _ _ hx).2.1 (zU hn)
theorem World.heap_push(w:World)(o:Obj)(r:Nat):(w.heap.push o)[r]? =if r=w.heap.size then some o else w.heap[r]? :=by
 rw[Array.getElem?_push]
theorem Rel.alloc{φ:Phi}{H H':CH}{w:World}(h:Rel P φ H w)(hn:H.n.wf){x:Blk}{o:Obj}{m:Nat}
  (e1:H'.n=H.n.next) (e2:H'.fz=H.fz) (e3:∀j:Id,j.wf→H'.get j=if j=H.n then some x else H.get j)
  (hx:BlkR P (φ.with H.n ⟨w.heap.size,0,m⟩) x ⟨w.heap.size,0,m⟩ (some o)) (ho:zBk o:=by first|exact rfl|trivial):
  Rel P (φ.with H.n ⟨w.heap.size,0,m⟩) H' {w with heap:=w.heap.push o}∧
  Ext φ H w (φ.with H.n ⟨w.heap.size,0,m⟩) H' {w with heap:=w.heap.push o}:=by
 have hnone:=h.none_at_n hn
 have hle:=Phi.le_with (⟨w.heap.size,0,m⟩:Loc) hnone
 have hget:∀b k,φ b=some k→H'.get b=H.get b:=by
  intro b k hb
  have hw:=h.wf b k hb
  rw[e3 b hw.1,if_neg]
  intro e;rw[e,hnone]at hb;cases hb
 have hold:∀r,r<w.heap.size→(w.heap.push o)[r]? =w.heap[r]? :=fun r hr=>by rw[World.heap_push,if_neg (by omega)]
 have hnew:(w.heap.push o)[w.heap.size]? =some o:=by rw[World.heap_push,if_pos rfl]
 refine h.and ?_ ?_
 ·refine⟨?_,?_,?_,?_⟩
  ·rw[e1];exact Id.okN_next hn
  ·intro b k hb
   by_cases e:b=H.n
   ·subst e
    rw[Phi.with_self]at hb;cases hb
    exact⟨hn,by rw[e1];exact Before.self hn,by simp⟩
   ·rw[Phi.with_ne _ e]at hb
    obtain⟨h1,h2,h3⟩:=h.wf b k hb
    exact⟨h1,by rw[e1];exact Before.next hn h2,by simp;omega⟩
  ·intro b k hb
   by_cases e:b=H.n
   ·subst e
    rw[Phi.with_self]at hb;cases hb
    exact⟨x,by rw[e3 _ hn,if_pos rfl],by rw[hnew];exact hx⟩
   ·rw[Phi.with_ne _ e]at hb
    obtain⟨y,h1,h2⟩:=h.blk b k hb
    exact⟨y,(hget b k hb).trans h1,by rw[hold _ (h.wf b k hb).2.2];exact h2.mono hle⟩
  ·intro b c l k y z hb hc hne hr hy hz
   by_cases e:b=H.n
   ·subst e
    rw[Phi.with_self]at hb;cases hb
    rw[Phi.with_ne _ (Ne.symm hne)]at hc
    have:=(h.wf c k hc).2.2
    change w.heap.size=k.r at hr
    omega
   ·rw[Phi.with_ne _ e]at hb
    by_cases e':c=H.n
    ·subst e'
     rw[Phi.with_self]at hc;cases hc
     have:=(h.wf b l hb).2.2
     change l.r=w.heap.size at hr
     omega
    ·rw[Phi.with_ne _ e']at hc
     exact h.sep b c l k y z hb hc hne hr ((hget b l hb).symm.trans hy) ((hget c k hc).symm.trans hz)
 ·refine⟨hle,e2,?_,?_,?_,?_,?_,?_,by simp,rfl,rfl,rfl,zGs w ho,fun b hb hbw hd=>by
   obtain⟨cs,e,sh,hd⟩:=hd
   exact⟨cs,e,sh,by rw[e3 b hbw,if_neg (by rintro rfl;exact zU hn hb)];exact hd⟩⟩
  ·intro b k hb hb0
   by_cases e:b=H.n
   ·subst e;exact zU hn
   ·rw[Phi.with_ne _ e,hb0]at hb;cases hb
  ·intro b hb;rw[e1];exact Before.next hn hb
  ·intro b k hb hb0
   by_cases e:b=H.n
   ·subst e;rw[Phi.with_self]at hb;cases hb;exact .inl (Nat.le_refl _)
   ·rw[Phi.with_ne _ e,hb0]at hb;cases hb
  ·intro r hr _;exact hold r hr
  ·rintro b hb hbw hw ⟨h1,y,h2,h3⟩
   have hne:b≠H.n:=by rintro rfl;exact zU hn hb
   rw[e3 b hbw,if_neg hne]at h2
   exact hw ⟨by rw[←e2];exact h1,y,h2,h3⟩
  ·intro b hb hbw _
   have hne:b≠H.n:=by rintro rfl;exact zU hn hb
   rw[e3 b hbw,if_neg hne]
theorem zAR(l:V)(n:Nat):lenV l n=lenL l+n:=by
 unfold lenV zAf
 induction l generalizing n with
 |cons x l _ ih=>
  have:=ih (Nat.succ n)
  simp only[lenL]at*
  rw[show lenL l+1+n=lenL l+Nat.succ n by omega,←this]
 |_=>simp[lenL]
theorem LR.inv_cons{φ:Phi}{x l:V}{vs:List Value}(h:LR φ (.cons x l) vs):∃v vs',vs=v::vs'∧VR φ x v∧LR φ l vs':=by
 cases h with
 |cons _ _ v vs' h1 h2=>exact⟨v,vs',rfl,h1,h2⟩
theorem LR.inv_nil{φ:Phi}{vs:List Value}(h:LR φ .nil vs):vs=[]:=by cases h;rfl
theorem LR.len{φ:Phi}{l:V}{vs:List Value}(h:LR φ l vs):lenL l=vs.length:=by
 induction l generalizing vs with
 |nil=>rw[h.inv_nil];rfl
 |cons x l _ ih=>
  obtain⟨v,vs',rfl,_,hl⟩:=h.inv_cons
  simp[lenL,ih hl]
 |_=>cases h
theorem nthV_zero(x l:V):nthV (.cons x l) 0=some x:=rfl
theorem nthV_nil(n:Nat):nthV .nil n=none:=rfl
theorem LR.nth{φ:Phi}{l:V}{vs:List Value}(h:LR φ l vs){n:Nat}{x:V}(hx:nthV l n=some x):∃v,vs[n]? =some v∧VR φ x v:=by
 induction l generalizing vs n with
 |nil=>rw[nthV_nil]at hx;cases hx
 |cons y l _ ih=>
  obtain⟨v,vs',rfl,h1,hl⟩:=h.inv_cons
  cases n with
  |zero=>rw[nthV_zero]at hx;cases hx;exact⟨v,rfl,h1⟩
  |succ n=>obtain⟨v',h1,h2⟩:=ih hl (n:=n) hx;exact⟨v',by simpa using h1,h2⟩
 |_=>cases h
theorem LR.drop{φ:Phi}{l:V}{vs:List Value}(h:LR φ l vs)(n:Nat):LR φ (zDy l n) (vs.drop n):=by
 induction l generalizing vs n with
 |nil=>rw[h.inv_nil];simpa[zDy,zAf]using (RR.nil:RR φ .nil (.l []))
 |cons y l _ ih=>
  obtain⟨v,vs',rfl,h1,hl⟩:=h.inv_cons
  cases n with
  |zero=>exact .cons y l v vs' h1 hl
  |succ n=>exact ih hl n
 |_=>cases h
theorem takeV_zero(l:V):zEm 0 l=some .nil:=rfl
theorem takeV_succ(n:Nat)(l:V):zEm (n+1) l=zu none none (fun x l=>opt none (fun r=>some (.cons x r)) (zEm n l)) l:=rfl
theorem LR.take{φ:Phi}:∀(n:Nat) {l:V} {vs:List Value} {r:V},LR φ l vs→zEm n l=some r→n≤vs.length∧LR φ r (vs.take n)∧lenL r=n:=by
 intro n
 induction n with
 |zero=>
  intro l vs r _ hr
  rw[takeV_zero]at hr;cases hr
  exact⟨Nat.zero_le _,by simpa using RR.nil,rfl⟩
 |succ n ih=>
  intro l vs r h hr
  rw[takeV_succ]at hr
  cases h with
  |nil=>exact absurd hr (by simp[zu])
  |cons x l v vs' hx hl=>
   change opt none (fun r=>some (.cons x r)) (zEm n l)=some r at hr
   cases ht:zEm n l with
   |none=>rw[ht]at hr;exact absurd hr (by simp[opt])
   |some r'=>
    rw[ht]at hr
    have:V.cons x r'=r:=by simpa[opt]using hr
    subst this
    obtain⟨h1,h2,h3⟩:=ih hl ht
    exact⟨by simp;omega,by simpa using RR.cons x r' v _ hx h2,by simp[lenL,h3]⟩
theorem zBc{α:Type}{f:V→TypeId→Nat→List Id→Option α}{b:Option Blk}{r:α}(h:yS none f b=some r):
  (∃cs e st sh,b=some (.cells cs e st sh)∧st≠2∧f cs e st sh=some r)∨(∃cs,b=some (.arg cs)∧f cs 0 1 []=some r):=by
 cases b with
 |none=>exact absurd h (by simp[yS])
 |some x=>
  cases x with
  |cells cs e st sh=>
   left
   change cond (Nat.beq st 2) none (f cs e st sh)=some r at h
   cases hb:Nat.beq st 2 with
   |true=>rw[hb]at h;exact absurd h (by simp[cond])
   |false=>
    rw[hb]at h
    exact⟨cs,e,st,sh,rfl,by rintro rfl;exact absurd hb (by decide),h⟩
  |arg cs=>exact .inr ⟨cs,rfl,h⟩
  |map _ _=>exact absurd h (by simp[yS])
  |loop _ _ _ _ _ _ _ _=>exact absurd h (by simp[yS])
  |dfr _=>exact absurd h (by simp[yS])
theorem Rel.cells{φ:Phi}{H:CH}{w:World}(h:Rel P φ H w){b:Id}{k:Loc}(hb:φ b=some k){α:Type}
  {f:V→TypeId→Nat→List Id→Option α} {r:α} (hr:yS none f (H.get b)=some r):
  ∃cs e st sh arr el fr,f cs e st sh=some r∧w.heap[k.r]? =some (.cells arr el fr)∧CellsAt φ cs k arr:=by
 obtain⟨x,hx,hbl⟩:=h.blk b k hb
 rcases zBc hr with ⟨cs,e,st,sh,h1,h2,h3⟩|⟨cs,h1,h3⟩
 ·rw[hx]at h1;cases h1
  rcases hbl with hbl|⟨⟨arr,el,h4,h5⟩,_⟩
  ·exact absurd hbl h2
  ·exact⟨cs,e,st,sh,arr,el,_,h3,h4,h5⟩
 ·rw[hx]at h1;cases h1
  obtain⟨arr,el,fr,h4,h5⟩:=hbl
  exact⟨cs,0,1,[],arr,el,fr,h3,h4,h5⟩
theorem zDa{w:World}{r off:Nat}{arr:Array Value}{el:TypeId}{fr:Nat×Nat}(h:w.heap[r]? =some (.cells arr el fr)):
  w.cell? ⟨r,off,none⟩=arr[off]? :=by
 simp[World.cell?,h]
theorem zAe{w:World}(a:Addr):∀(n i:Nat) (acc:Array Value) (vs:List Value),vs.length=n→
  (∀j v,vs[j]? =some v→w.cell? (a.add (i+j))=some v)→(loadCellsFrom a i n acc).run P w=.ok (acc++vs.toArray) w:=by
 intro n
 induction n with
 |zero=>
  intro i acc vs hl _
  have:vs=[]:=List.length_eq_zero_iff.1 hl
  subst this
  simp[loadCellsFrom,Sem.run,pure]
 |succ n ih=>
  intro i acc vs hl hc
  cases vs with
  |nil=>simp at hl
  |cons v vs=>
   have h0:w.cell? (a.add i)=some v:=by simpa using hc 0 v rfl
   have:=ih (i+1) (acc.push v) vs (by simpa using hl) (fun j u hj=>by
    have:=hc (j+1) u (by simpa using hj)
    rwa [show i+(j+1)=i+1+j by omega]at this)
   show Sem.run P (Sem.bind (load (a.add i)) fun v=>loadCellsFrom a (i+1) n (acc.push v)) w=_
   simp only[load,Sem.bind,Sem.run,h0]
   rw[this]
   simp
end Vam
namespace Vam
open Go
variable {P:Program}
theorem zHc{φ:Phi}{v:Value}{x:V}(h:zFR v=some x):VR φ x v:=by
 cases v with
 |bool b=>cases h;exact .bool b
 |int k n=>cases h;exact .int k n
 |string s=>cases h;exact .str s
 |pointer a=>cases a with
  |none=>cases h;exact .nilp
  |some a=>cases h
 |slice a n c=>
  cases a with
  |some a=>cases h
  |none=>
   cases n with
   |succ n=>cases h
   |zero=>cases c with
    |succ c=>cases h
    |zero=>cases h;exact .nils
 |map r=>cases r with
  |none=>cases h;exact .nilm
  |some a=>cases h
 |nilFunc=>cases h;exact .nilf
 |_=>cases h
theorem ofVals_rel{φ:Phi}:∀{vs:List Value} {l:List V},zHb vs=some l→LR φ (zF l) vs:=by
 intro vs
 induction vs with
 |nil=>intro l h;cases h;exact .nil
 |cons v vs ih=>
  intro l h
  simp only[zHb]at h
  cases h1:zFR v with
  |none=>rw[h1]at h;cases h
  |some x=>
   cases h2:zHb vs with
   |none=>rw[h1,h2]at h;cases h
   |some m=>
    rw[h1,h2]at h
    cases h
    exact .cons _ _ _ _ (zHc h1) (ih h2)
theorem zDS{φ:Phi}{v:Value}{x:V}(h:zCh v=some x):VR φ x v:=by
 unfold zCh at h
 split at h
 ·rename_i cs
  cases h1:zHb cs.toList with
  |none=>rw[h1]at h;cases h
  |some l=>rw[h1]at h;cases h;exact .agg _ _ (ofVals_rel h1)
 ·exact zHc h
theorem zGf{φ:Phi}{v:Value}(h:(zCh v).isSome=true):VR φ (zDr v) v:=by
 obtain⟨x,hx⟩:=Option.isSome_iff_exists.1 h
 unfold zDr
 rw[hx]
 exact zDS hx
theorem yu{a b:Nat}(h:Nat.blt a b=true):a<b:=by simpa[Nat.blt_eq]using h
theorem zAX{φ:Phi}{tm:TT}{a:Act}(h:TmR φ tm a.tmps){o:Operand}(ho:okO a.tmps.size o=true):VR φ (zG tm o) (a.eval o):=by
 cases o with
 |tmp t=>exact h.2 t (yu ho)
 |const v=>exact zGf ho
 |global g=>
  have e1:g*4096 / 4096=g:=Nat.mul_div_cancel _ (by decide)
  have e2:g*4096 % 4096=0:=Nat.mul_mod_left _ _
  have:=RR.glob (φ:=φ) (g*4096)
  rw[e1,e2]at this
  exact this
 |func f=>exact .func f .nil .nil #[] #[] .nil .nil
theorem zBW{φ:Phi}{tm:TT}{a:Act}(h:TmR φ tm a.tmps):∀{l:List Operand},(l.all (okO a.tmps.size))=true→LR φ (yY tm l) (l.map a.eval):=by
 intro l
 induction l with
 |nil=>intro _;exact .nil
 |cons o l ih=>
  intro ho
  simp only[List.all_cons,Bool.and_eq_true]at ho
  exact .cons _ _ _ _ (zAX h ho.1) (ih ho.2)
theorem zEg{φ:Phi}{x:V}{v:Value}(h:VR φ x v):LR φ (zBF x) v.cells.toList:=by
 cases h with
 |agg l cs h=>exact h
 |bool b=>exact .cons _ _ _ _ (.bool b) .nil
 |int k n=>exact .cons _ _ _ _ (.int k n) .nil
 |str s=>exact .cons _ _ _ _ (.str s) .nil
 |ptr b off k hk=>exact .cons _ _ _ _ (.ptr b off k hk) .nil
 |glob n=>exact .cons _ _ _ _ (.glob n) .nil
 |nilp=>exact .cons _ _ _ _ .nilp .nil
 |empty sz a=>exact .cons _ _ _ _ (.empty sz a) .nil
 |loose sz a c=>exact .cons _ _ _ _ (.loose sz a c) .nil
 |slice b off len cc sz cap k hk hc=>exact .cons _ _ _ _ (.slice b off len cc sz cap k hk hc) .nil
 |nils=>exact .cons _ _ _ _ .nils .nil
 |map b k hk=>exact .cons _ _ _ _ (.map b k hk) .nil
 |nilm=>exact .cons _ _ _ _ .nilm .nil
 |func f a b A B ha hb=>exact .cons _ _ _ _ (.func f a b A B ha hb) .nil
 |yield b k hk=>exact .cons _ _ _ _ (.yield b k hk) .nil
 |nilf=>exact .cons _ _ _ _ .nilf .nil
 |tup l cs h=>exact .cons _ _ _ _ (.tup l cs h) .nil
theorem zBU{α:Type}{no r:α}{f:Bool→α}{v:V}(h:wB no f v=r)(hr:r≠no):∃b,v=.bool b∧f b=r:=by
 cases v<;>first|exact⟨_,rfl,h⟩|exact absurd h.symm hr
theorem wh{α:Type}{no r:α}{f:IntKind→Int→α}{v:V}(h:zDB no f v=r)(hr:r≠no):∃k n,v=.int k n∧f k n=r:=by
 cases v<;>first|exact⟨_,_,rfl,h⟩|exact absurd h.symm hr
theorem wg{α:Type}{no r:α}{f:Id→Nat→α}{v:V}(h:zAD no f v=r)(hr:r≠no):∃b o,v=.ptr b o∧f b o=r:=by
 cases v<;>first|exact⟨_,_,rfl,h⟩|exact absurd h.symm hr
theorem wC{α:Type}{no r z:α}{f:Id→Nat→Nat→Nat→Nat→α}{v:V}(h:yx no f z v=r)(hr:r≠no):
  (∃b o l c s,v=.slice b o l c s∧f b o l c s=r)∨(v=.nils∧z=r):=by
 cases v<;>first|exact .inl ⟨_,_,_,_,_,rfl,h⟩|exact .inr ⟨rfl,h⟩|exact absurd h.symm hr
theorem onMap_ok{α:Type}{no r z:α}{f:Id→α}{v:V}(h:onMap no f z v=r)(hr:r≠no):(∃b,v=.map b∧f b=r)∨(v=.nilm∧z=r):=by
 cases v<;>first|exact .inl ⟨_,rfl,h⟩|exact .inr ⟨rfl,h⟩|exact absurd h.symm hr
theorem onFunc_ok{α:Type}{no r:α}{f:Nat→V→V→α}{y:Id→α}{v:V}(h:zHa no f y v=r)(hr:r≠no):
  (∃g a b,v=.func g a b∧f g a b=r)∨(∃l,v=.yield l∧y l=r):=by
 cases v<;>first|exact .inl ⟨_,_,_,rfl,h⟩|exact .inr ⟨_,rfl,h⟩|exact absurd h.symm hr
theorem wS{α:Type}{no r:α}{f:V→α}{v:V}(h:zCo no f v=r)(hr:r≠no):∃l,v=.agg l∧f l=r:=by
 cases v<;>first|exact⟨_,rfl,h⟩|exact absurd h.symm hr
theorem onTup_ok{α:Type}{no r:α}{f:V→α}{v:V}(h:onTup no f v=r)(hr:r≠no):∃l,v=.tup l∧f l=r:=by
 cases v<;>first|exact⟨_,rfl,h⟩|exact absurd h.symm hr
theorem za{α:Type}{no r z:α}{f:V→V→α}{v:V}(h:zu no z f v=r)(hr:r≠no):(v=.nil∧z=r)∨∃x l,v=.cons x l∧f x l=r:=by
 cases v<;>first|exact .inl ⟨rfl,h⟩|exact .inr ⟨_,_,rfl,h⟩|exact absurd h.symm hr
theorem zAm{α:Type}{no r:α}{f:List Nat→α}{v:V}(h:zGd no f v=r)(hr:r≠no):∃s,v=.str s∧f s=r:=by
 cases v<;>first|exact⟨_,rfl,h⟩|exact absurd h.symm hr
theorem zP{α β:Type}{no r:β}{f:α→β}{o:Option α}(h:opt no f o=r)(hr:r≠no):∃x,o=some x∧f x=r:=by
 cases o<;>first|exact⟨_,rfl,h⟩|exact absurd h.symm hr
theorem zH{α:Type}{no r t:α}{b:Bool}(h:cond b t no=r)(hr:r≠no):b=true∧t=r:=by
 cases b<;>first|exact⟨rfl,h⟩|exact absurd h.symm hr
theorem zAo{α:Type}{no r t:α}{b:Bool}(h:cond b no t=r)(hr:r≠no):b=false∧t=r:=by
 cases b<;>first|exact⟨rfl,h⟩|exact absurd h.symm hr
theorem yZ{H H':CH}{o:Option V}{v:V}(h:zt H o=.ok v H'):o=some v∧H'=H:=by
 cases o with
 |none=>cases h
 |some x=>cases h;exact⟨rfl,rfl⟩
theorem zBL{α:Type}{no r:α}{f:Nat→α}{v:V}(h:zFe no f v=r)(hr:r≠no):∃k n,v=.int k (.ofNat n)∧f n=r:=by
 obtain⟨k,n,rfl,h1⟩:=wh h hr
 cases n with
 |ofNat n=>exact⟨k,n,rfl,h1⟩
 |negSucc n=>exact absurd h1.symm hr
theorem zl{a b:Nat}(h:Nat.beq a b=true):a=b:=Nat.eq_of_beq_eq_true h
theorem R.ok_ne{v:V}{H:CH}:R.ok v H≠R.no:=by intro h;cases h
def Sim(P:Program)(φ:Phi)(H:CH)(w:World)(s:Sem Next)(v:V)(H':CH):Prop:=
 ∃φ' w' x,(s.run P w=.ok (.value x) w'∨(s.run P w=.ok .skip w'∧x=Go.undef))∧Rel P φ' H' w'∧Ext φ H w φ' H' w'∧VR φ' v x
theorem Sim.pure{φ:Phi}{H:CH}{w:World}{s:Sem Value}{v:V}{x:Value}(h:Rel P φ H w)(hs:s.run P w=.ok x w)(hx:VR φ v x):
  Sim P φ H w (do pure (.value (←s))) v H:=
 ⟨φ,w,x,.inl (by simp[hs]),h,.refl _ _ _,hx⟩
theorem zBa{t:TypeId}{z:V}(h:yf P t=some z)(w:World):∃zv,(zeroValue t).run P w=.ok zv w∧∀φ:Phi,LR φ z zv.cells.toList:=by
 unfold yf at h
 split at h
 ·rename_i i hi
  split at h
  ·rename_i zv hz
   split at h
   ·rename_i x hx
    cases h
    exact⟨zv,by simp[zeroValue,run_typeInfo w hi,hz],fun φ=>zEg (zDS hx)⟩
   ·cases h
  ·cases h
 ·cases h
theorem newB_sim{φ:Phi}{H H':CH}{w:World}(h:Rel P φ H w){e:TypeId}{cells v:V}{cs:Array Value}(hc:∀ψ:Phi,φ.le ψ→LR ψ cells cs.toList)
  (hr:newB H e cells=.ok v H'):∃φ',Rel P φ' H' {w with heap:=w.heap.push (.cells cs e)}∧Ext φ H w φ' H' {w with heap:=w.heap.push (.cells cs e)}∧
   VR φ' v (.pointer (some ⟨w.heap.size,0,none⟩)):=by
 obtain⟨H₁,h1,h2,h3,h4,h5⟩:=wK hr R.ok_ne h.nok
 cases h1
 have hnone:=h.none_at_n h2
 have hle:=Phi.le_with (⟨w.heap.size,0,cs.size⟩:Loc) hnone
 obtain⟨r1,r2⟩:=h.alloc (m:=cs.size) (o:=.cells cs e) h2 h3 h4 h5 (by
  refine .inr ⟨⟨cs,e,rfl,by simp,?_,cs.toList,hc _ hle,fun i v hv=>by simpa using hv⟩,by simp⟩
  rw[(hc _ hle).len];simp)
 exact⟨_,r1,r2,.ptr _ 0 _ (Phi.with_self _ _ _)⟩
theorem zEq(w:World)(t:TypeId)(v:Value):(newVar t v).run P w=.ok ⟨w.heap.size,0,none⟩ {w with heap:=w.heap.push (.cells v.cells t)}:=rfl
section ops
variable {φ:Phi}{H H':CH}{w:World}{tm:TT}{a:Act}{v:V}
theorem sim_alloc(h:Rel P φ H w){e:TypeId}(hr:oAlloc H e (yf P e)=.ok v H'):Sim P φ H w (do pure (.value (←Instr.alloc e true (.tuple #[])))) v H':=by
 obtain⟨z,hz,h1⟩:=zP hr R.ok_ne
 obtain⟨zv,h2,h3⟩:=zBa hz w
 obtain⟨φ',r1,r2,r3⟩:=newB_sim h (cs:=zv.cells) (fun ψ _=>h3 ψ) h1
 exact⟨φ',_,_,.inl (by simp[Instr.alloc,h2,zEq]),r1,r2,r3⟩
theorem sim_box(h:Rel P φ H w){e:TypeId}{x:V}{xv:Value}(hx:VR φ x xv)(hr:newB H e (zBF x)=.ok v H'):
  Sim P φ H w (do pure (.value (←Instr.box e xv))) v H':=by
 obtain⟨φ',r1,r2,r3⟩:=newB_sim h (cs:=xv.cells) (fun ψ hle=>zEg (hx.mono hle)) hr
 exact⟨φ',_,_,.inl (by simp[Instr.box,zEq]),r1,r2,r3⟩
theorem sim_pick(h:Rel P φ H w){c x y:V}{cv xv yv:Value}(hc:VR φ c cv)(hx:VR φ x xv)(hy:VR φ y yv)(hr:oPick H c x y=.ok v H'):
  Sim P φ H w (do pure (.value (if ←asBool cv then xv else yv))) v H':=by
 obtain⟨b,rfl,h1⟩:=zBU hr R.ok_ne
 cases hc
 cases h1
 refine⟨φ,w,if b then xv else yv,.inl (by simp[asBool]),h,.refl _ _ _,?_⟩
 cases b
 ·exact hy
 ·exact hx
theorem sim_extract(h:Rel P φ H w){t:V}{tv:Value}{i:Nat}(ht:VR φ t tv)(hr:zCT H i t=.ok v H'):Sim P φ H w (do pure (.value (←Instr.extract tv i))) v H':=by
 obtain⟨l,rfl,h1⟩:=onTup_ok hr R.ok_ne
 obtain⟨h2,rfl⟩:=yZ h1
 cases ht with
 |tup _ cs hl=>
  obtain⟨x,h3,h4⟩:=LR.nth hl h2
  refine Sim.pure h ?_ h4
  have:cs[i]? =some x:=by simpa using h3
  simp[Instr.extract,this]
theorem zFr{t:TypeId}(h:shOf P t=.one):(∃i,P.info? t=some i)∧P.cellsOf t=1∧∀w:World,(isAgg t).run P w=.ok false w:=by
 unfold shOf at h
 cases hi:P.info? t with
 |none=>simp[hi]at h
 |some i=>
  cases hu:P.underlying t with
  |none=>simp[hi,hu]at h
  |some d=>
   rw[hi,hu]at h
   cases d<;>simp at h<;>refine⟨⟨i,rfl⟩,by simp[Program.cellsOf,hi,h],fun w=>by simp[isAgg,run_underlying hu]⟩
theorem zCu{t:TypeId}{n:Nat}(h:shOf P t=.many n):(∃i,P.info? t=some i)∧P.cellsOf t=n∧∀w:World,(isAgg t).run P w=.ok true w:=by
 unfold shOf at h
 cases hi:P.info? t with
 |none=>simp[hi]at h
 |some i=>
  cases hu:P.underlying t with
  |none=>simp[hi,hu]at h
  |some d=>
   rw[hi,hu]at h
   cases d with
   |struct fs=>simp at h;exact⟨⟨i,rfl⟩,by simp[Program.cellsOf,hi,h],fun w=>by simp[isAgg,run_underlying hu]⟩
   |array m e=>simp at h;exact⟨⟨i,rfl⟩,by simp[Program.cellsOf,hi,h],fun w=>by simp[isAgg,run_underlying hu]⟩
   |_=>(exfalso;dsimp only at h;split at h<;>cases h)
theorem zBK(h:Rel P φ H w){b:Id}{k:Loc}(hb:φ b=some k){off n:Nat}{l:V}(hr:zX H b off n=some l):
  ∃vs:List Value,vs.length=n∧LR φ l vs∧∀j x,vs[j]? =some x→w.cell? ⟨k.r,k.o+off+j,none⟩=some x:=by
 cases n with
 |zero=>cases(show some V.nil=some l from hr);exact⟨[],rfl,.nil,fun j x hx=>by simp at hx⟩
 |succ n=>
 have hr:yS none (rd off (n+1)) (H.get b)=some l:=hr
 generalize n+1=n at hr ⊢
 obtain⟨cs,e,st,sh,arr,el,fr,h1,h2,h3,h4,vs,h5,h6⟩:=h.cells hb hr
 obtain⟨h7,h8,h9⟩:=LR.take n (h5.drop off) h1
 refine⟨(vs.drop off).take n,?_,h8,?_⟩
 ·rw[List.length_take];omega
 ·intro j x hx
  rw[zDa h2]
  have hj:j<n:=by
   have:=(List.getElem?_eq_some_iff.1 hx).1
   simp at this;omega
  rw[List.getElem?_take,if_pos hj,List.getElem?_drop]at hx
  rw[Nat.add_assoc]
  exact h6 _ _ hx
theorem read1_rel(h:Rel P φ H w){b:Id}{k:Loc}(hb:φ b=some k){off:Nat}{x:V}(hr:read1 H b off=some x):
  ∃v,VR φ x v∧w.cell? ⟨k.r,k.o+off,none⟩=some v:=by
 obtain⟨cs,e,st,sh,arr,el,fr,h1,h2,h3,h4,vs,h5,h6⟩:=h.cells hb hr
 obtain⟨v,h7,h8⟩:=h5.nth h1
 exact⟨v,h8,by rw[zDa h2];exact h6 _ _ h7⟩
theorem wE(r o j:Nat):Addr.add ⟨r,o,none⟩ j=⟨r,o+j,none⟩:=by
 unfold Addr.add
 split
 ·rename_i h;subst h;rfl
 ·rfl
theorem yI{t:TypeId}(h:∃i,P.info? t=some i)(w:World):(Go.sizeOf t).run P w=Result.ok (P.cellsOf t) w:=by
 obtain⟨i,hi⟩:=h
 exact run_sizeOf w hi
theorem zGo{b:Id}(h:b.wf):zGp b=false:=by cases b with|mk=>rfl|over=>exact h.elim
theorem isOver_get{H:CH}{b:Id}{x:Blk}(h:H.get b=some x):zGp b=false:=by cases b with|mk=>rfl|over=>cases H;cases h
theorem loadV_of{t:TypeId}{b:Id}{off:Nat}{v:V}(h:zFf P t H b off=some v):zBB P t H b off=some v:=by
 unfold zBB;rw[h];rfl
theorem loadV_notOver{t:TypeId}{b:Id}{off:Nat}(h:zGp b=false):zBB P t H b off=zFf P t H b off:=by
 unfold zBB
 rw[h]
 cases zFf P t H b off<;>rfl
theorem loadO_rel(h:Rel P φ H w){t:TypeId}{b:Id}{k:Loc}(hb:φ b=some k){off:Nat}{x:V}(hr:zFf P t H b off=some x):
  ∃v,(loadVar t ⟨k.r,k.o+off,none⟩).run P w=.ok v w∧VR φ x v:=by
 unfold zFf at hr
 cases hs:shOf P t with
 |bad=>rw[hs]at hr;cases hr
 |one=>
  rw[hs]at hr
  obtain⟨v,h1,h2⟩:=read1_rel h hb hr
  obtain⟨_,_,h3⟩:=zFr hs
  exact⟨v,by simp[loadVar,h3 w,h2],h1⟩
 |many n=>
  rw[hs]at hr
  obtain⟨l,h0,h1⟩:=zP (no:=none) hr (by simp)
  cases h1
  obtain⟨hi,hn,h3⟩:=zCu hs
  obtain⟨vs,h4,h5,h6⟩:=zBK h hb h0
  refine⟨.agg vs.toArray,?_,.agg _ _ (by simpa using h5)⟩
  have:=zAe (P:=P) (w:=w) ⟨k.r,k.o+off,none⟩ n 0 #[] vs h4 (fun j v hj=>by
   rw[wE]
   simpa using h6 j v hj)
  simp[loadVar,h3 w,yI hi w,hn,loadCells,this]
theorem loadV_rel(h:Rel P φ H w){t:TypeId}{b:Id}{k:Loc}(hb:φ b=some k){off:Nat}{x:V}(hr:zBB P t H b off=some x):
  ∃v,(loadVar t ⟨k.r,k.o+off,none⟩).run P w=.ok v w∧VR φ x v:=by
 rw[loadV_notOver (zGo (h.wf b k hb).1)]at hr
 exact loadO_rel h hb hr
theorem loadO_over{t:TypeId}{off:Nat}{x:V}(hr:zFf P t H .over off=some x):shOf P t=.many 0∧x=.agg .nil:=by
 have hg:H.get .over=none:=by cases H;rfl
 unfold zFf at hr
 cases hs:shOf P t with
 |bad=>rw[hs]at hr;cases hr
 |one=>
  rw[hs]at hr
  have hr:yS none (rd1 off) (H.get .over)=some x:=hr
  rw[hg]at hr;cases hr
 |many n=>
  rw[hs]at hr
  cases n with
  |zero=>cases(show some (V.agg .nil)=some x from hr);exact⟨rfl,rfl⟩
  |succ n=>
   have hr:opt none (fun l=>some (V.agg l)) (yS none (rd off (n+1)) (H.get .over))=some x:=hr
   rw[hg]at hr;cases hr
theorem gread_ok{α:Type}{n:Nat}{f:V→Nat→Option V}{x:V}(h:gread n f=some x):∃cs,gtab (n / 4096)=some cs∧f cs (n % 4096)=some x:=by
 unfold gread at h
 obtain⟨cs,h1,h2⟩:=zP (no:=none) h (by simp)
 exact⟨cs,h1,h2⟩
theorem loadG_rel(h:Rel P φ H w){t:TypeId}{off:Nat}{x:V}(hr:zBB P t H .over off=some x):
  ∃v,(loadVar t ⟨off / 4096,off % 4096,none⟩).run P w=.ok v w∧VR φ x v:=by
 unfold zBB at hr
 cases ho:zFf P t H .over off with
 |some y=>
  rw[ho]at hr
  cases(show some y=some x from hr)
  obtain⟨hs,rfl⟩:=loadO_over ho
  obtain⟨hi,hn,h3⟩:=zCu hs
  refine⟨.agg #[],?_,.agg _ _ .nil⟩
  have:=zAe (P:=P) (w:=w) ⟨off / 4096,off % 4096,none⟩ 0 0 #[] [] rfl (fun j v hj=>by simp at hj)
  simp[loadVar,h3 w,yI hi w,hn,loadCells,this]
 |none=>
  rw[ho]at hr
  have hr:loadG P t off=some x:=hr
  unfold loadG at hr
  cases hs:shOf P t with
  |bad=>rw[hs]at hr;cases hr
  |one=>
   rw[hs]at hr
   obtain⟨cs,q1,q2⟩:=gread_ok (α:=Unit) hr
   obtain⟨_,⟨arr,el,fr,q3,_,_,vs,q4,q5⟩,_⟩:=h.gl _ cs q1
   have q4:LR φ cs vs:=q4.mono (fun _ _ e=>by cases e)
   obtain⟨v,h7,h8⟩:=q4.nth q2
   obtain⟨_,_,h3⟩:=zFr hs
   have hc:w.cell? ⟨off / 4096,off % 4096,none⟩=some v:=by rw[zDa q3];have:=q5 _ _ h7;rwa [Nat.zero_add]at this
   exact⟨v,by simp[loadVar,h3 w,hc],h8⟩
  |many n=>
   rw[hs]at hr
   obtain⟨cs,q1,q2⟩:=gread_ok (α:=Unit) hr
   obtain⟨l,h0,h1⟩:=zP (no:=none) q2 (by simp)
   cases h1
   obtain⟨_,⟨arr,el,fr,q3,_,_,vs,q4,q5⟩,_⟩:=h.gl _ cs q1
   have q4:LR φ cs vs:=q4.mono (fun _ _ e=>by cases e)
   obtain⟨hi,hn,h3⟩:=zCu hs
   obtain⟨h7,h8,h9⟩:=LR.take n (q4.drop (off % 4096)) h0
   refine⟨.agg ((vs.drop (off % 4096)).take n).toArray,?_,.agg _ _ (by simpa using h8)⟩
   have hlen:((vs.drop (off % 4096)).take n).length=n:=by rw[List.length_take];omega
   have:=zAe (P:=P) (w:=w) ⟨off / 4096,off % 4096,none⟩ n 0 #[] _ hlen (fun j v hj=>by
    rw[wE,zDa q3]
    have hj':j<n:=by
     have:=(List.getElem?_eq_some_iff.1 hj).1
     omega
    rw[List.getElem?_take,if_pos hj',List.getElem?_drop]at hj
    have:=q5 _ _ hj
    simpa using this)
   simp[loadVar,h3 w,yI hi w,hn,loadCells,this]
theorem sim_load(h:Rel P φ H w){t:TypeId}{x:V}{xv:Value}(hx:VR φ x xv)(hr:zAD .no (zES P t H) x=.ok v H'):
  Sim P φ H w (do pure (.value (←Instr.loadAt t xv))) v H':=by
 obtain⟨b,o,rfl,h1⟩:=wg hr R.ok_ne
 obtain⟨h2,rfl⟩:=yZ h1
 cases hx with
 |ptr _ _ k hk=>
  obtain⟨u,h3,h4⟩:=loadV_rel h hk h2
  exact Sim.pure h (by simp[Instr.loadAt,Instr.sureAddr,h3]) h4
 |glob n=>
  obtain⟨u,h3,h4⟩:=loadG_rel h h2
  exact Sim.pure h (by simp[Instr.loadAt,Instr.sureAddr,h3]) h4
end ops
end Vam
namespace Vam
open Go
variable {P:Program}{φ:Phi}{H H':CH}{w:World}
theorem putV_zero(x l v vs:V):putV (.cons x l) 0 (.cons v vs)=opt none (fun r=>some (.cons v r)) (putV l 0 vs):=rfl
theorem putV_zero_nil(x l:V):putV (.cons x l) 0 .nil=some (.cons x l):=rfl
theorem putV_succ(x l vs:V)(n:Nat):putV (.cons x l) (n+1) vs=opt none (fun r=>some (.cons x r)) (putV l n vs):=rfl
theorem putV_nil(n:Nat)(vs:V):putV .nil n vs=natC (zu none (some .nil) (fun _ _=>none) vs) (fun _=>none) n:=rfl
def putL(l:List Value)(n:Nat)(vs:List Value):List Value:=l.take n++vs++l.drop (n+vs.length)
theorem putV_rel:∀{l:V} {xs:List Value} {n:Nat} {vs r:V} {ys:List Value},LR φ l xs→LR φ vs ys→putV l n vs=some r→
  n+ys.length≤xs.length∧LR φ r (putL xs n ys)∧lenL r=lenL l:=by
 intro l
 induction l with
 |nil=>
  intro xs n vs r ys hl hv hr
  rw[LR.inv_nil hl]
  rw[putV_nil]at hr
  cases n with
  |succ n=>cases hr
  |zero=>
   cases hv with
   |nil=>cases hr;exact⟨by simp,by simpa[putL]using RR.nil,rfl⟩
   |cons _ _ _ _ _ _=>cases hr
 |cons x l _ ih=>
  intro xs n vs r ys hl hv hr
  obtain⟨v,xs',rfl,hx,hl'⟩:=LR.inv_cons hl
  cases n with
  |zero=>
   cases hv with
   |nil=>rw[putV_zero_nil]at hr;cases hr;exact⟨by simp,by simpa[putL]using hl,rfl⟩
   |cons y vs' u ys' hy hv'=>
    rw[putV_zero]at hr
    obtain⟨r',h1,h2⟩:=zP (no:=none) hr (by simp)
    cases h2
    obtain⟨h3,h4,h5⟩:=ih hl' hv' h1
    refine⟨by simp at h3 ⊢;omega,?_,by simp[lenL,h5]⟩
    have e:putL (v::xs') 0 (u::ys')=u::putL xs' 0 ys':=by simp[putL]
    rw[e];exact .cons _ _ _ _ hy h4
  |succ n=>
   rw[putV_succ]at hr
   obtain⟨r',h1,h2⟩:=zP (no:=none) hr (by simp)
   cases h2
   obtain⟨h3,h4,h5⟩:=ih hl' hv h1
   refine⟨by simp;omega,?_,by simp[lenL,h5]⟩
   have e:putL (v::xs') (n+1) ys=v::putL xs' n ys:=by simp[putL,Nat.add_right_comm]
   rw[e];exact .cons _ _ _ _ hx h4
 |_=>intro xs n vs r ys hl _ _;cases hl
def wP(arr:Array Value)(n:Nat):List Value→Array Value
 |[]=>arr
 |v::vs=>wP (arr.setIfInBounds n v) (n+1) vs
theorem zCQ(vs:List Value):∀(arr:Array Value) (n:Nat),(wP arr n vs).size=arr.size:=by
 induction vs with
 |nil=>intro arr n;rfl
 |cons v vs ih=>intro arr n;simp[wP,ih]
theorem zDR(vs:List Value):∀(arr:Array Value) (n i:Nat),n+vs.length≤arr.size→
  (wP arr n vs)[i]? =if n≤i∧i<n+vs.length then vs[i - n]? else arr[i]? :=by
 induction vs with
 |nil=>intro arr n i _;simp[wP];omega
 |cons v vs ih=>
  intro arr n i h
  simp only[wP,List.length_cons]at h ⊢
  rw[ih _ _ _ (by simp;omega)]
  by_cases h1:n+1≤i∧i<n+1+vs.length
  ·rw[if_pos h1,if_pos (by omega),show i - n=(i - (n+1))+1 by omega];simp
  ·rw[if_neg h1]
   by_cases h2:i=n
   ·subst h2
    rw[if_pos (by omega)]
    simp[Array.getElem?_setIfInBounds];omega
   ·rw[if_neg (by omega),Array.getElem?_setIfInBounds_ne (by omega)]
theorem heap_setCell{r off:Nat}{v:Value}{arr:Array Value}{el:TypeId}{fr:Nat×Nat}(h:w.heap[r]? =some (.cells arr el fr)):
  (w.setCell ⟨r,off,none⟩ v)={w with heap:=w.heap.setIfInBounds r (.cells (arr.setIfInBounds off v) el fr)}:=by
 obtain⟨hr,hh⟩:=Array.getElem?_eq_some_iff.1 h
 unfold World.setCell
 congr 1
 apply Array.ext_getElem?
 intro i
 rw[Array.getElem?_modify,Array.getElem?_setIfInBounds]
 by_cases e:r=i
 ·subst e;simp[hr,hh]
 ·simp[e]
theorem wq(a:Addr)(r o:Nat)(el:TypeId):∀(vs:List Value) (i:Nat) (w:World) (arr:Array Value),
  (∀j,a.add j=⟨r,o+j,none⟩)→w.heap[r]? =some (.cells arr el (0,0))→(∀v∈vs,v.oneCell'=true)→o+i+vs.length≤arr.size→
  (storeCells a vs i).run P w=.ok () {w with heap:=w.heap.setIfInBounds r (.cells (wP arr (o+i) vs) el (0,0))}:=by
 intro vs
 induction vs with
 |nil=>
  intro i w arr _ h _ _
  obtain⟨hr,hh⟩:=Array.getElem?_eq_some_iff.1 h
  have:w.heap.setIfInBounds r (.cells arr el (0,0))=w.heap:=by
   apply Array.ext_getElem?
   intro j
   rw[Array.getElem?_setIfInBounds]
   by_cases e:r=j
   ·subst e;simp[hr,hh]
   ·simp[e]
  simp[storeCells,wP,this]
 |cons v vs ih=>
  intro i w arr ha h h1 hl
  obtain⟨hr,hh⟩:=Array.getElem?_eq_some_iff.1 h
  simp only[List.length_cons]at hl
  have hc:w.cell? ⟨r,o+i,none⟩=some arr[o+i]:=by rw[zDa h];simp
  have hf:w.frozen? ⟨r,o+i,none⟩=false:=by simp[World.frozen?,h]
  have hs:(store (a.add i) v).run P w=.ok () (w.setCell ⟨r,o+i,none⟩ v):=by
   rw[run_store P w _ _ _ (h1 v (by simp)),ha i,hc]
   simp[hf]
  simp only[storeCells,Sem.run_bind,hs,Result.andThen_ok]
  rw[heap_setCell h]
  rw[ih (i+1) _ (arr.setIfInBounds (o+i) v) ha (by simp[hr]) (fun u hu=>h1 u (by simp[hu])) (by simp;omega)]
  simp only[wP]
  congr 2
  apply Array.ext_getElem?
  intro j
  rw[Array.getElem?_setIfInBounds,Array.getElem?_setIfInBounds,Array.getElem?_setIfInBounds]
  by_cases e:r=j
  ·subst e;simp[hr,Nat.add_assoc]
  ·simp[e]
theorem zFN{l:V}{xs:List Value}(hl:LR φ l xs)(h:we l=true):∀v∈xs,v.oneCell'=true:=by
 induction l generalizing xs with
 |nil=>rw[LR.inv_nil hl];simp
 |cons x l _ ih=>
  obtain⟨v,xs',rfl,hx,hl'⟩:=LR.inv_cons hl
  change cond (oneC x) (we l) false=true at h
  obtain⟨h1,h2⟩:=zH h (by simp)
  intro u hu
  rcases List.mem_cons.1 hu with rfl|hu
  ·cases hx<;>first|rfl|(cases h1)
  ·exact ih hl' h2 u hu
 |_=>cases hl
end Vam
namespace Vam
open Go
variable {P:Program}{φ:Phi}{H H':CH}{w:World}
theorem kill_nil(H:CH):kill [] H=some H:=rfl
theorem kill_cons(b:Id)(bs:List Id)(H:CH):kill (b::bs) H=opt none (kill bs) (opt (some H) (H.set b) (yS none killS (H.get b))):=rfl
theorem kill_some:∀{bs:List Id} {H H':CH},kill bs H=some H'→(∀b∈bs,b.wf)→
  H'.n=H.n∧H'.fz=H.fz∧∀j:Id,j.wf→
   (H'.get j=H.get j∧(j∈bs→∀cs e st sh,H.get j=some (.cells cs e st sh)→st=2))∨
   (j∈bs∧H.fz≤j.num∧∃cs e sh,H'.get j=some (.cells cs e 2 sh)):=by
 intro bs
 induction bs with
 |nil=>intro H H' h _;rw[kill_nil]at h;cases h;exact⟨rfl,rfl,fun j _=>.inl ⟨rfl,by simp⟩⟩
 |cons b bs ih=>
  intro H H' h hw
  rw[kill_cons]at h
  obtain⟨H₁,h1,h2⟩:=zP (no:=none) h (by simp)
  have hbs:∀c∈bs,c.wf:=fun c hc=>hw c (List.mem_cons_of_mem _ hc)
  obtain⟨e1,e2,e3⟩:=ih h2 hbs
  cases hk:yS none killS (H.get b)with
  |none=>
   rw[hk]at h1
   have:H=H₁:=by simpa[opt]using h1
   subst this
   refine⟨e1,e2,fun j hj=>?_⟩
   rcases e3 j hj with ⟨h3,h4⟩|⟨h3,h4⟩
   ·refine .inl ⟨h3,fun hm cs e st sh hg=>?_⟩
    rcases List.mem_cons.1 hm with rfl|hm
    ·rw[hg]at hk
     change cond (Nat.beq st 2) none (killS cs e st sh)=none at hk
     cases hb:Nat.beq st 2 with
     |true=>exact zl hb
     |false=>rw[hb]at hk;cases hk
    ·exact h4 hm cs e st sh hg
   ·exact .inr ⟨List.mem_cons_of_mem _ h3,h4⟩
  |some x=>
   rw[hk]at h1
   change H.set b x=some H₁ at h1
   have hbw:=hw b (List.mem_cons_self ..)
   obtain⟨s1,s2,s3,s4⟩:=CH.set_some h1 hbw
   have hx:∃cs e sh,x=.cells cs e 2 sh:=by
    rcases zBc hk with ⟨cs,e,st,sh,_,_,h5⟩|⟨cs,_,h5⟩
    ·cases h5;exact⟨_,_,_,rfl⟩
    ·cases h5;exact⟨_,_,_,rfl⟩
   obtain⟨cs,e,sh,rfl⟩:=hx
   refine⟨e1.trans s1,e2.trans s2,fun j hj=>?_⟩
   by_cases ej:j=b
   ·subst ej
    right
    refine⟨List.mem_cons_self ..,s3,?_⟩
    rcases e3 j hj with ⟨h3,_⟩|⟨_,_,h4⟩
    ·exact⟨cs,e,sh,by rw[h3,s4 j hj,if_pos rfl]⟩
    ·exact h4
   ·rcases e3 j hj with ⟨h3,h4⟩|⟨h3,h4,h5⟩
    ·refine .inl ⟨by rw[h3,s4 j hj,if_neg ej],fun hm cs e st sh hg=>?_⟩
     rcases List.mem_cons.1 hm with rfl|hm
     ·exact absurd rfl ej
     ·exact h4 hm cs e st sh (by rw[s4 j hj,if_neg ej];exact hg)
    ·exact .inr ⟨List.mem_cons_of_mem _ h3,by rw[←s2];exact h4,h5⟩
theorem zCr{b:Id}{off:Nat}{vs:V}(h:zk H b off vs=some H'):
  ∃cs e sh cs' H₁,H.get b=some (.cells cs e 0 sh)∧we vs=true∧putV cs off vs=some cs'∧H.set b (.cells cs' e 0 [])=some H₁∧kill sh H₁=some H':=by
 rcases zBc h with ⟨cs,e,st,sh,h1,h2,h3⟩|⟨cs,h1,h3⟩
 ·obtain⟨h4,h5⟩:=zH h3 (by simp)
  obtain⟨h6,h7⟩:=zH h5 (by simp)
  obtain⟨cs',h8,h9⟩:=zP (no:=none) h7 (by simp)
  obtain⟨H₁,h10,h11⟩:=zP (no:=none) h9 (by simp)
  obtain rfl:=zl h4
  exact⟨cs,e,sh,cs',H₁,h1,h6,h8,h10,h11⟩
 ·cases h3
theorem Rel.write(h:Rel P φ H w){b:Id}{k:Loc}(hb:φ b=some k){off:Nat}{vs:V}{ys:List Value}(hv:LR φ vs ys)
  (hr:zk H b off vs=some H'):
  ∃arr el,w.heap[k.r]? =some (.cells arr el (0,0))∧k.o+off+ys.length≤arr.size∧(∀v∈ys,v.oneCell'=true)∧
   Rel P φ H' {w with heap:=w.heap.setIfInBounds k.r (.cells (wP arr (k.o+off) ys) el (0,0))}∧
   Ext φ H w φ H' {w with heap:=w.heap.setIfInBounds k.r (.cells (wP arr (k.o+off) ys) el (0,0))}:=by
 obtain⟨cs,e,sh,cs',H₁,g1,g2,g3,g4,g5⟩:=zCr hr
 obtain⟨hbw,hbn,hbr⟩:=h.wf b k hb
 obtain⟨x,hx,hbl⟩:=h.blk b k hb
 rw[g1]at hx;cases hx
 rcases hbl with hbl|⟨⟨arr,el,a1,a2,a3,us,a4,a5⟩,a6⟩
 ·cases hbl
 obtain⟨p1,p2,p3⟩:=putV_rel a4 hv g3
 have hlen:=LR.len a4
 obtain⟨s1,s2,s3,s4⟩:=CH.set_some g4 hbw
 obtain⟨k1,k2,k3⟩:=kill_some g5 a6
 have hsize:k.o+off+ys.length≤arr.size:=by omega
 refine⟨arr,el,a1,hsize,zFN hv g2,h.and ?_ ?_⟩
 ·
  have cls:∀c:Id,c.wf→(∃y,H'.get c=some y∧Dead y)∨(c≠b∧H'.get c=H.get c∧(c∈sh→∀cs e st sh',H.get c=some (.cells cs e st sh')→st=2))∨
    (c=b∧H'.get c=some (.cells cs' e 0 [])):=by
   intro c hc
   rcases k3 c hc with ⟨h3,h4⟩|⟨_,_,cs₂,e₂,sh₂,h5⟩
   ·by_cases ec:c=b
    ·subst ec;exact .inr (.inr ⟨rfl,by rw[h3,s4 c hc,if_pos rfl]⟩)
    ·have e5:H₁.get c=H.get c:=by rw[s4 c hc,if_neg ec]
     exact .inr (.inl ⟨ec,h3.trans e5,fun hm cs e st sh' hg=>h4 hm cs e st sh' (e5.trans hg)⟩)
   ·exact .inl ⟨_,h5,rfl⟩
  have hnewblk:BlkR P φ (.cells cs' e 0 []) k (some (.cells (wP arr (k.o+off) ys) el (0,0))):=by
   refine .inr ⟨⟨_,el,rfl,by rw[zCQ];exact a2,by rw[p3];exact a3,putL us off ys,p2,?_⟩,by simp⟩
   intro i v hi
   rw[zDR _ _ _ _ hsize]
   simp only[putL]at hi
   by_cases h1:i<off
   ·rw[if_neg (by omega)]
    apply a5
    rw[List.append_assoc,List.getElem?_append_left (by simp;omega),List.getElem?_take,if_pos h1]at hi
    exact hi
   ·by_cases h2:i<off+ys.length
    ·rw[if_pos (by omega)]
     rw[List.append_assoc,List.getElem?_append_right (by simp;omega),List.getElem?_append_left (by simp;omega)]at hi
     rw[←hi];congr 1;simp;omega
    ·rw[if_neg (by omega)]
     apply a5
     rw[List.getElem?_append_right (by simp;omega),List.getElem?_drop]at hi
     rw[←hi];congr 1;simp;omega
  have same:∀c l,φ c=some l→c≠b→l.r=k.r→∃y,H'.get c=some y∧Dead y:=by
   intro c l hc hne hlr
   obtain⟨hcw,_,_⟩:=h.wf c l hc
   obtain⟨z,hz,_⟩:=h.blk c l hc
   rcases cls c hcw with hd|⟨_,he,hm⟩|⟨hcb,_⟩
   ·exact hd
   ·refine⟨z,he.trans hz,?_⟩
    rcases h.sep b c k l _ _ hb hc (Ne.symm hne) hlr.symm g1 hz with hd|hd|⟨hd,_⟩|⟨_,_,_,_,_,_,_,_,hd,_⟩|⟨cs₁,e₁,sh₁,cs₂,e₂,sh₂,q1,q2,q3,_⟩
    ·cases hd
    ·exact hd
    ·exact absurd rfl hd
    ·cases hd
    ·cases q1
     have:=hm q2 _ _ _ _ (hz.trans (by rw[q3]))
     cases this
   ·exact absurd hcb hne
  refine⟨?_,?_,?_,?_⟩
  ·rw[k1,s1];exact h.nok
  ·intro c l hc
   obtain⟨h1,h2,h3⟩:=h.wf c l hc
   exact⟨h1,by rw[k1,s1];exact h2,by simpa using h3⟩
  ·intro c l hc
   obtain⟨hcw,_,hcr⟩:=h.wf c l hc
   by_cases ec:c=b
   ·subst ec
    rw[hb]at hc;cases hc
    rcases cls c hcw with ⟨y,h1,h2⟩|⟨h1,_⟩|⟨_,h1⟩
    ·refine⟨y,h1,?_⟩
     cases y with
     |cells=>exact .inl h2
     |_=>exact h2.elim
    ·exact absurd rfl h1
    ·exact⟨_,h1,by
      rw[Array.getElem?_setIfInBounds,if_pos rfl,if_pos hcr]
      exact hnewblk⟩
   ·by_cases er:l.r=k.r
    ·obtain⟨y,h1,h2⟩:=same c l hc ec er
     refine⟨y,h1,?_⟩
     cases y with
     |cells=>exact .inl h2
     |_=>exact h2.elim
    ·have hh:(w.heap.setIfInBounds k.r (.cells (wP arr (k.o+off) ys) el (0,0)))[l.r]? =w.heap[l.r]? :=Array.getElem?_setIfInBounds_ne (by omega)
     rcases cls c hcw with ⟨y,h1,h2⟩|⟨_,h1,_⟩|⟨h1,_⟩
     ·refine⟨y,h1,?_⟩
      cases y with
      |cells=>exact .inl h2
      |_=>exact h2.elim
     ·obtain⟨y,h2,h3⟩:=h.blk c l hc
      exact⟨y,h1.trans h2,by show BlkR P φ y l ((w.heap.setIfInBounds k.r _)[l.r]?);rw[hh];exact h3⟩
     ·exact absurd h1 ec
  ·intro c d l m x y hc hd hne hlr hx hy
   obtain⟨hcw,_,_⟩:=h.wf c l hc
   obtain⟨hdw,_,_⟩:=h.wf d m hd
   by_cases ec:c=b
   ·subst ec
    rw[hb]at hc;cases hc
    obtain⟨y',h1,h2⟩:=same d m hd (Ne.symm hne) hlr.symm
    rw[hy]at h1;cases h1
    exact .inr (.inl h2)
   ·by_cases ed:d=b
    ·subst ed
     rw[hb]at hd;cases hd
     obtain⟨y',h1,h2⟩:=same c l hc hne hlr
     rw[hx]at h1;cases h1
     exact .inl h2
    ·rcases cls c hcw with ⟨x',h1,h2⟩|⟨_,h1,_⟩|⟨h1,_⟩
     ·rw[hx]at h1;cases h1;exact .inl h2
     ·rcases cls d hdw with ⟨y',h3,h4⟩|⟨_,h3,_⟩|⟨h3,_⟩
      ·rw[hy]at h3;cases h3;exact .inr (.inl h4)
      ·exact h.sep c d l m x y hc hd hne hlr (h1.symm.trans hx) (h3.symm.trans hy)
      ·exact absurd h3 ed
     ·exact absurd h1 ec
 ·have hwr:WrAt H b:=⟨s3,_,g1,rfl⟩
  refine⟨Phi.le_refl φ,k2.trans s2,?_,?_,?_,?_,?_,?_,by simp,rfl,rfl,rfl,zFB w a1 rfl rfl,fun c hcb hcw hd=>by
   obtain⟨cs2,e2,sh2,hd⟩:=hd
   rcases k3 c hcw with ⟨h4,_⟩|⟨_,_,cs₂,e₂,sh₂,h5⟩
   ·by_cases ec:c=b
    ·subst ec;rw[g1]at hd;cases hd
    ·exact⟨cs2,e2,sh2,by rw[h4,s4 c hcw,if_neg ec];exact hd⟩
   ·exact⟨_,_,_,h5⟩⟩
  ·intro c l h1 h2;rw[h2]at h1;cases h1
  ·intro c hc;rw[k1,s1];exact hc
  ·intro c l h1 h2;rw[h2]at h1;cases h1
  ·intro r _ hall
   exact Array.getElem?_setIfInBounds_ne (fun e=>hall b k hb e hwr)
  ·rintro c hcb hcw hn ⟨h1,y,h2,h3⟩
   rcases k3 c hcw with ⟨h4,_⟩|⟨_,_,cs₂,e₂,sh₂,h5⟩
   ·by_cases ec:c=b
    ·subst ec;exact hn hwr
    ·rw[h4,s4 c hcw,if_neg ec]at h2
     exact hn ⟨by rw[←s2,←k2];exact h1,y,h2,h3⟩
   ·rw[h5]at h2;cases h2;cases h3
  ·intro c hcb hcw hf
   rcases k3 c hcw with ⟨h4,_⟩|⟨_,h5,_⟩
   ·rw[h4,s4 c hcw,if_neg]
    rintro rfl;omega
   ·rw[s2]at h5;omega
end Vam
namespace Vam
open Go
variable {P:Program}{φ:Phi}{H H':CH}{w:World}{v:V}
theorem Sim.skip{s:Sem Unit}{w':World}{φ':Phi}(hs:s.run P w=.ok () w')(h:Rel P φ' H' w')(he:Ext φ H w φ' H' w'):
  Sim P φ H w (do s;Pure.pure Next.skip) undef H':=
 ⟨φ',w',Go.undef,.inr ⟨by simp[hs],rfl⟩,h,he,zEG φ'⟩
theorem skip1_ok{o:Option CH}(h:zEK o=.ok v H'):o=some H'∧v=undef:=by
 cases o with
 |none=>cases h
 |some x=>cases h;exact⟨rfl,rfl⟩
theorem oneCell_cells{x:Value}(h:x.oneCell'=true):x.cells= #[x]:=by cases x<;>first|rfl|cases h
theorem storeV_rel(h:Rel P φ H w){t:TypeId}{x:V}{xv:Value}(hx:VR φ x xv){b:Id}{k:Loc}(hb:φ b=some k){off:Nat}
  (hr:zBZ P t x H b off=some H'):∃w',(storeVar t ⟨k.r,k.o+off,none⟩ xv).run P w=.ok () w'∧Rel P φ H' w'∧Ext φ H w φ H' w':=by
 have key:∀(vs:V) (ys:List Value),LR φ vs ys→xv.cells.toList=ys→P.cellsOf t=ys.length→(∃i,P.info? t=some i)→zk H b off vs=some H'→
   ∃w',(storeVar t ⟨k.r,k.o+off,none⟩ xv).run P w=.ok () w'∧Rel P φ H' w'∧Ext φ H w φ H' w':=by
  intro vs ys hl hcs hn hi hwr
  obtain⟨arr,el,a1,a2,a3,a4,a5⟩:=h.write hb hl hwr
  refine⟨_,?_,a4,a5⟩
  have hsz:xv.cells.size=P.cellsOf t:=by rw[hn,←hcs];simp
  have:=wq (P:=P) ⟨k.r,k.o+off,none⟩ k.r (k.o+off) el ys 0 w arr (fun j=>wE _ _ _) a1 a3 (by simpa using a2)
  simp[storeVar,yI hi w,hsz,hcs,this]
 unfold zBZ at hr
 cases hs:shOf P t with
 |bad=>rw[hs]at hr;cases hr
 |one=>
  rw[hs]at hr
  obtain⟨hi,hn,_⟩:=zFr hs
  have hl:LR φ (.cons x .nil) [xv]:=.cons _ _ _ _ hx .nil
  obtain⟨_,_,_,_,_,_,g2,_⟩:=zCr hr
  have h1:=zFN hl g2 xv (by simp)
  exact key _ [xv] hl (by rw[oneCell_cells h1]) (by simpa using hn) hi hr
 |many n=>
  rw[hs]at hr
  obtain⟨l,rfl,h1⟩:=wS (no:=none) hr (by simp)
  obtain⟨h2,h3⟩:=zH h1 (by simp)
  obtain⟨hi,hn,_⟩:=zCu hs
  cases hx with
  |agg _ cs hl=>
   refine key l cs.toList hl rfl ?_ hi h3
   rw[hn,←LR.len hl,←zl h2,zAR];rfl
theorem zGP{t:TypeId}{x:V}(o:Nat)(K:CH):zBZ P t x H .over o≠some K:=by
 have hg:H.get .over=none:=by cases H;rfl
 intro hr
 have hw:∀vs,zk H .over o vs=none:=fun vs=>by unfold zk;rw[hg];rfl
 unfold zBZ at hr
 cases hs:shOf P t with
 |bad=>rw[hs]at hr;cases hr
 |one=>
  rw[hs]at hr
  have hr:zk H .over o (.cons x .nil)=some K:=hr
  rw[hw]at hr;cases hr
 |many n=>
  rw[hs]at hr
  have hr:zCo none (fun l=>cond (Nat.beq (lenV l 0) n) (zk H .over o l) none) x=some K:=hr
  obtain⟨l,rfl,h1⟩:=wS (no:=none) hr (by simp)
  rw[hw]at h1
  cases hb:Nat.beq (lenV l 0) n<;>rw[hb]at h1<;>cases h1
theorem zEO{b:Id}(h:b.wf)(o k:Nat):zCf H b o k=.ok (.ptr b (o+k)) H:=by
 unfold zCf ptrOk;rw[zGo h];rfl
theorem zHZ{o k:Nat}(h:ptrOk .over o k=true):(o+k) / 4096=o / 4096∧(o+k) % 4096=o % 4096+k:=by
 have h:o % 4096+k+1≤4096:=Nat.le_of_ble_eq_true h
 omega
theorem sim_store(h:Rel P φ H w){t:TypeId}{p x:V}{pv xv:Value}(hp:VR φ p pv)(hx:VR φ x xv)(hr:zAD .no (zGg P t x H) p=.ok v H'):
  Sim P φ H w (do Instr.storeAt t pv xv;pure Next.skip) v H':=by
 obtain⟨b,o,rfl,h1⟩:=wg hr R.ok_ne
 obtain⟨h2,rfl⟩:=skip1_ok h1
 cases hp with
 |ptr _ _ k hk=>
  obtain⟨w',h3,h4,h5⟩:=storeV_rel h hx hk h2
  exact Sim.skip (by simp[Instr.storeAt,Instr.sureAddr,h3]) h4 h5
 |glob n=>exact absurd h2 (zGP _ _)
theorem yV{t:TypeId}(h:zCt P t=true):(∃i,P.info? t=some i)∧∃d,P.underlying t=some d:=by
 unfold zCt at h
 rw[Bool.and_eq_true]at h
 exact⟨Option.isSome_iff_exists.1 h.1,Option.isSome_iff_exists.1 h.2⟩
theorem zCL{t:TypeId}{fs:List Field}(h:tyOf P t=.struct fs):∃F:Array Field,P.underlying t=some (.struct F)∧F.toList=fs∧∀f∈fs,zCt P f.type=true:=by
 unfold tyOf at h
 split at h<;>(try split at h)<;>cases h
 rename_i F hu hall
 exact⟨F,hu,rfl,fun f hf=>List.all_eq_true.1 hall f hf⟩
theorem zAF{t:TypeId}{n:Nat}{e:TypeId}(h:tyOf P t=.array n e):P.underlying t=some (.array n e)∧zCt P e=true:=by
 unfold tyOf at h
 split at h<;>(try split at h)<;>cases h
 exact⟨by assumption,by assumption⟩
theorem zq{t:TypeId}{e:TypeId}(h:tyOf P t=.slice e):P.underlying t=some (.slice e)∧zCt P e=true:=by
 unfold tyOf at h
 split at h<;>(try split at h)<;>cases h
 exact⟨by assumption,by assumption⟩
theorem zDP{t:TypeId}{k e:TypeId}(h:tyOf P t=.map k e):P.underlying t=some (.map k e)∧zCt P k=true∧zCt P e=true:=by
 unfold tyOf at h
 split at h<;>(try split at h)<;>cases h
 exact⟨by assumption,(Bool.and_eq_true _ _).mp (by assumption)⟩
theorem zAB{t:TypeId}(h:tyOf P t=.string):P.underlying t=some .string:=by
 unfold tyOf at h
 split at h<;>(try split at h)<;>cases h
 assumption
theorem zFl{t:TypeId}{k:IntKind}(h:tyOf P t=.int k):P.underlying t=some (.int k):=by
 unfold tyOf at h
 split at h<;>(try split at h)<;>cases h
 assumption
theorem tyOf_bool{t:TypeId}(h:tyOf P t=.bool):P.underlying t=some .bool:=by
 unfold tyOf at h
 split at h<;>(try split at h)<;>cases h
 assumption
theorem tyOf_pointer{t:TypeId}(h:tyOf P t=.pointer):∃e,P.underlying t=some (.pointer e):=by
 unfold tyOf at h
 split at h<;>(try split at h)<;>cases h
 exact⟨_,by assumption⟩
theorem tyOf_func{t:TypeId}(h:tyOf P t=.func):∃a b c,P.underlying t=some (.func a b c):=by
 unfold tyOf at h
 split at h<;>(try split at h)<;>cases h
 exact⟨_,_,_,by assumption⟩
theorem nthO_eq{α:Type}(l:List α):∀n,nthO l n=l[n]? :=by
 induction l with
 |nil=>intro n;rfl
 |cons x l ih=>
  intro n
  cases n with
  |zero=>rfl
  |succ n=>exact(ih n).trans (by simp)
theorem zFU{t:TypeId}{f off:Nat}{ft:TypeId}(h:zc P t f=some (off,ft)):
  ∃(F:Array Field) (fd:Field),P.underlying t=some (.struct F)∧F[f]? =some fd∧fd.offset=off∧fd.type=ft∧P.cellsOf ft≠0∧zCt P ft=true:=by
 unfold zc at h
 split at h
 ·rename_i fs hfs
  obtain⟨F,h1,h2,h3⟩:=zCL hfs
  split at h
  ·rename_i fd hfd
   split at h
   ·cases h
   ·rename_i hz
    cases h
    rw[nthO_eq,←h2]at hfd
    refine⟨F,fd,h1,by simpa using hfd,rfl,rfl,hz,h3 fd ?_⟩
    rw[←h2];exact List.mem_of_getElem? hfd
  ·cases h
 ·cases h
theorem sim_fieldAddr(h:Rel P φ H w){t:TypeId}{x:V}{xv:Value}{f:Nat}(hx:VR φ x xv)(hr:zAG x H (zc P t f)=.ok v H'):
  Sim P φ H w (do pure (.value (←Instr.fieldAt t xv f))) v H':=by
 obtain⟨⟨off,ft⟩,h1,h2⟩:=zP hr R.ok_ne
 obtain⟨b,o,rfl,h3⟩:=wg h2 R.ok_ne
 obtain⟨h4,h3⟩:=zH h3 R.ok_ne
 cases h3
 obtain⟨F,fd,g1,g2,rfl,rfl,g5,g6⟩:=zFU h1
 have hs:=yI (yV g6).1 w
 cases hx with
 |ptr _ _ k hk=>
  refine Sim.pure h (x:=.pointer (some ⟨k.r,k.o+(o+fd.offset),none⟩)) ?_ (.ptr b _ k hk)
  simp[Instr.fieldAt,run_underlying g1,g2,Instr.sureAddr,fieldPlace,hs,g5,wE,Nat.add_assoc]
 |glob _=>
  obtain⟨e1,e2⟩:=zHZ h4
  refine Sim.pure h (x:=.pointer (some ⟨o / 4096,o % 4096+fd.offset,none⟩)) ?_ (by have:=RR.glob (φ:=φ) (o+fd.offset);rw[e1,e2]at this;exact this)
  simp[Instr.fieldAt,run_underlying g1,g2,Instr.sureAddr,fieldPlace,hs,g5,wE,Nat.add_assoc]
theorem idx_ok{α:Type}{no r:α}{len:Nat}{f:Nat→α}{ix:V}(h:idx no len f ix=r)(hr:r≠no):∃kd i,ix=.int kd (.ofNat i)∧i<len∧f i=r:=by
 obtain⟨kd,i,rfl,h1⟩:=zBL h hr
 obtain⟨h2,h3⟩:=zH h1 hr
 exact⟨kd,i,rfl,Nat.le_of_ble_eq_true h2,h3⟩
theorem sim_indexAddr(h:Rel P φ H w){t:TypeId}{x ix:V}{xv iv:Value}(hx:VR φ x xv)(hi:VR φ ix iv)(hr:ym P t x ix H=.ok v H'):
  Sim P φ H w (do pure (.value (←Instr.indexAt t xv iv))) v H':=by
 unfold ym at hr
 cases ht:tyOf P t with
 |array n e=>
  rw[ht]at hr
  obtain⟨b,o,rfl,h3⟩:=wg hr R.ok_ne
  obtain⟨kd,i,rfl,h4,h5⟩:=idx_ok h3 R.ok_ne
  obtain⟨h6,h5⟩:=zH h5 R.ok_ne
  cases h5
  obtain⟨g1,g2⟩:=zAF ht
  have hs:=yI (yV g2).1 w
  cases hi
  cases hx with
  |ptr _ _ k hk=>
   refine Sim.pure h (x:=.pointer (some ⟨k.r,k.o+(o+i*P.cellsOf e),none⟩)) ?_ (.ptr b _ k hk)
   simp[Instr.indexAt,run_underlying g1,Instr.sureAddr,asIntOf,hs,h4,wE,Nat.add_assoc]
  |glob _=>
   obtain⟨e1,e2⟩:=zHZ h6
   refine Sim.pure h (x:=.pointer (some ⟨o / 4096,o % 4096+i*P.cellsOf e,none⟩)) ?_ (by have:=RR.glob (φ:=φ) (o+i*P.cellsOf e);rw[show(o+i*P.cellsOf e) / 4096=_ from e1,show(o+i*P.cellsOf e) % 4096=_ from e2]at this;exact this)
   simp[Instr.indexAt,run_underlying g1,Instr.sureAddr,asIntOf,hs,h4,wE,Nat.add_assoc]
 |slice e=>
  rw[ht]at hr
  rcases wC hr R.ok_ne with ⟨b,o,l,c,s,rfl,h3⟩|⟨_,h3⟩
  ·obtain⟨kd,i,rfl,h4,h5⟩:=idx_ok h3 R.ok_ne
   cases h5
   obtain⟨g1,g2⟩:=zq ht
   cases hi
   cases hx with
   |slice _ _ _ _ _ cap k hk hc=>
    refine Sim.pure h (x:=.pointer (some ⟨k.r,k.o+(o+i*P.cellsOf e),none⟩)) ?_ (.ptr b _ k hk)
    have hs:=yI (yV g2).1 w
    simp[Instr.indexAt,run_underlying g1,asIntOf,hs,h4,wE,Nat.add_assoc]
   |empty sz a=>omega
   |loose sz a c=>omega
  ·cases h3
 |_=>rw[ht]at hr;cases hr
theorem sim_arrPtr(h:Rel P φ H w){d:TypeId}{x:V}{xv:Value}(hx:VR φ x xv)(hr:zGh P d x H=.ok v H'):
  Sim P φ H w (do pure (.value (←Instr.arrayAt d xv))) v H':=by
 unfold zGh at hr
 cases ht:tyOf P d with
 |array n e=>
  rw[ht]at hr
  rcases wC (show yx R.no (arrSl n H) R.no x=.ok v H' from hr) R.ok_ne with ⟨b,o,l,c,s,rfl,h3⟩|⟨_,h3⟩
  ·obtain⟨h4,h5⟩:=zH (show cond (Nat.ble n l) (cond (Nat.ble 1 l) (R.ok (.ptr b o) H) R.no) R.no=.ok v H' from h3) R.ok_ne
   obtain⟨h6,h7⟩:=zH h5 R.ok_ne
   cases h7
   have h4:=Nat.le_of_ble_eq_true h4
   have h6:=Nat.le_of_ble_eq_true h6
   obtain⟨g1,g2⟩:=zAF ht
   cases hx with
   |slice _ _ _ _ _ cap k hk hc=>
    refine Sim.pure h (x:=.pointer (some ⟨k.r,k.o+o,none⟩)) ?_ (.ptr b _ k hk)
    simp[Instr.arrayAt,run_underlying g1,Nat.not_lt.2 h4]
   |empty sz a=>omega
   |loose sz a c=>omega
  ·cases h3
 |_=>rw[ht]at hr;cases hr
theorem zAs{t:TypeId}{cs:V}{xs:List Value}(hl:LR φ cs xs){off:Nat}{x:V}(hr:zBm P t cs off=some x)(w:World):
  ∃u,(part t xs.toArray off).run P w=.ok u w∧VR φ x u:=by
 unfold zBm at hr
 cases hs:shOf P t with
 |bad=>rw[hs]at hr;cases hr
 |one=>
  rw[hs]at hr
  obtain⟨_,_,h3⟩:=zFr hs
  obtain⟨u,h4,h5⟩:=LR.nth hl hr
  exact⟨u,by simp[part,h3 w,h4],h5⟩
 |many n=>
  rw[hs]at hr
  obtain⟨l,h0,h1⟩:=zP (no:=none) hr (by simp)
  cases h1
  obtain⟨hi,hn,h3⟩:=zCu hs
  obtain⟨h7,h8,h9⟩:=LR.take n (LR.drop hl off) h0
  refine⟨.agg (xs.toArray.extract off (off+n)),by simp[part,h3 w,yI hi w,hn],.agg _ _ ?_⟩
  have e:(xs.toArray.extract off (off+n)).toList=(xs.drop off).take n:=by
   simp[List.extract_eq_take_drop]
  rw[e];exact h8
theorem sim_field(h:Rel P φ H w){t:TypeId}{x:V}{xv:Value}{f:Nat}(hx:VR φ x xv)(hr:zHd P x H (zc P t f)=.ok v H'):
  Sim P φ H w (do pure (.value (←Instr.field t xv f))) v H':=by
 obtain⟨⟨off,ft⟩,h1,h2⟩:=zP hr R.ok_ne
 obtain⟨l,rfl,h3⟩:=wS h2 R.ok_ne
 obtain⟨h4,rfl⟩:=yZ h3
 obtain⟨F,fd,g1,g2,rfl,rfl,g5,g6⟩:=zFU h1
 cases hx with
 |agg _ cs hl=>
  obtain⟨u,h5,h6⟩:=zAs hl h4 w
  refine Sim.pure h ?_ h6
  simp at h5
  simp[Instr.field,run_underlying g1,g2,asAgg,h5]
theorem bytes_get{s:ByteArray}{i:Nat}{b:Nat}(h:(bytesOf s)[i]? =some b):∃u:UInt8,s[i]? =some u∧u.toNat=b:=by
 unfold bytesOf at h
 rw[List.getElem?_map]at h
 cases hx:s.data.toList[i]? with
 |none=>rw[hx]at h;cases h
 |some u=>
  rw[hx]at h
  refine⟨u,?_,by simpa using h⟩
  have hi:i<s.size:=by
   have:=(List.getElem?_eq_some_iff.1 hx).1
   simpa using this
  have hv:s.data[i]? =some u:=by simpa using hx
  have:s[i]=u:=by
   have:=(Array.getElem?_eq_some_iff.1 hv).2
   exact this
  simp[hi,this]
theorem zEh(s:ByteArray):(bytesOf s).length=s.size:=by simp[bytesOf]
theorem sim_index(h:Rel P φ H w){t:TypeId}{x ix:V}{xv iv:Value}(hx:VR φ x xv)(hi:VR φ ix iv)(hr:zDf P t x ix H=.ok v H'):
  Sim P φ H w (do pure (.value (←Instr.index t xv iv))) v H':=by
 unfold zDf at hr
 cases ht:tyOf P t with
 |array n e=>
  rw[ht]at hr
  obtain⟨l,rfl,h3⟩:=wS hr R.ok_ne
  obtain⟨kd,i,rfl,h4,h5⟩:=idx_ok h3 R.ok_ne
  obtain⟨h6,rfl⟩:=yZ h5
  obtain⟨g1,g2⟩:=zAF ht
  cases hi
  cases hx with
  |agg _ cs hl=>
   obtain⟨u,h7,h8⟩:=zAs hl h6 w
   refine Sim.pure h ?_ h8
   have hs:=yI (yV g2).1 w
   simp at h7
   simp[Instr.index,asIntOf,run_underlying g1,h4,hs,h7]
 |string=>
  rw[ht]at hr
  obtain⟨s,rfl,h3⟩:=zAm hr R.ok_ne
  obtain⟨kd,i,rfl,h4,h5⟩:=idx_ok h3 R.ok_ne
  obtain⟨b,h6,h7⟩:=zP h5 R.ok_ne
  cases h7
  have g1:=zAB ht
  cases hi
  cases hx with
  |str s=>
   rw[nthO_eq]at h6
   obtain⟨u,h8,rfl⟩:=bytes_get h6
   refine Sim.pure h (x:=.int .u8 u.toNat) ?_ (.int _ _)
   simp[Instr.index,asIntOf,run_underlying g1,h8]
 |_=>rw[ht]at hr;cases hr
end Vam
