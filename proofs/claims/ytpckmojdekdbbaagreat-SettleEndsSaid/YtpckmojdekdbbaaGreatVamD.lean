import Derived.Test.YtpckmojdekdbbaaGreatVamC
import Derived.Laws.Append
import Derived.Laws.AppendOwn
set_option linter.unusedVariables false
set_option linter.unusedSimpArgs false
namespace Vam
open Go
variable {P:Program}{φ:Phi}{H H':CH}{w:World}{v:V}
theorem zAM{t t2 ty e:TypeId}(ht:P.underlying t=some (.slice e))(hu:(∃e2,P.underlying t2=some (.slice e2))∨P.underlying t2=some .string){size:Nat}
  (hs:(Go.sizeOf e).run P w=Result.ok size w) {a:Addr} {sLen sCap n:Nat} {x:Value} (hn:(Builtin.lenOf x).run P w=.ok n w) {new:Array Value}
  (hf:(Builtin.firstCells size n x).run P w=.ok new w) (hle:sLen+n≤sCap) {args:Array Value} (a0:args[0]? =some (.slice (some a) sLen sCap)) (a1:args[1]? =some x) {w':World} (hst:(storeCells (a.add (sLen*size)) new.toList).run P w=.ok () w'):
  (Builtin.append_ #[t,t2] ty args).run P w=.ok (.slice (some a) (sLen+n) sCap) w':=by
 rcases hu with ⟨e2,hu⟩|hu<;>simp[Builtin.append_,a0,a1,run_underlying ht,run_underlying hu,hs,hn,hf,hle,hst]
theorem zFc{t t2 ty e:TypeId}(ht:P.underlying t=some (.slice e))(hu:(∃e2,P.underlying t2=some (.slice e2))∨P.underlying t2=some .string){size:Nat}
  (hs:(Go.sizeOf e).run P w=Result.ok size w) {x:Value} (hn:(Builtin.lenOf x).run P w=.ok 0 w) {new:Array Value}
  (hf:(Builtin.firstCells size 0 x).run P w=.ok new w) {args:Array Value} (a0:args[0]? =some (.slice none 0 0)) (a1:args[1]? =some x):
  (Builtin.append_ #[t,t2] ty args).run P w=.ok (.slice none 0 0) w:=by
 rcases hu with ⟨e2,hu⟩|hu<;>simp[Builtin.append_,a0,a1,run_underlying ht,run_underlying hu,hs,hn,hf]
theorem zFd{t t2 ty e:TypeId}(ht:P.underlying t=some (.slice e))(hu:(∃e2,P.underlying t2=some (.slice e2))∨P.underlying t2=some .string){i:TypeInfo}{z:Value}
  (hi:P.info? e=some i) (hz:i.zero=some z) {base:Option Addr} {sLen sCap n:Nat} {x:Value} (hn:(Builtin.lenOf x).run P w=.ok n w) {old new:Array Value}
  (ho:(Builtin.firstCells i.size sLen (.slice base sLen sCap)).run P w.drew=.ok old w.drew)
  (hf:(Builtin.firstCells i.size n x).run P w.drew=.ok new w.drew) (hle: ¬ sLen+n≤sCap) (h63:((sLen+n:Nat):Int)≤9223372036854775807)
  (hfit:Builtin.nextslicecap (sLen+n) sCap*i.bytes≤281474976710656)
  {args:Array Value} (a0:args[0]? =some (.slice base sLen sCap)) (a1:args[1]? =some x):
  (Builtin.append_ #[t,t2] ty args).run P w=
   .ok (.slice (some ⟨w.heap.size,0,none⟩) (sLen+n) (grownCap w (sLen+n) sCap e))
    (w.drew.alloc (.cells (old++(new++Builtin.zeroCells z.cells (grownCap w (sLen+n) sCap e - (sLen+n)))) e)):=by
 have h63': ¬ (9223372036854775807<((sLen:Int)+(n:Int))):=by omega
 have h48': ¬ (281474976710656<Builtin.nextslicecap (sLen+n) sCap*i.bytes):=by omega
 rcases hu with ⟨e2,hu⟩|hu<;>
 ·simp[Builtin.append_,a0,a1,run_underlying ht,run_underlying hu,Go.sizeOf,typeInfo,zeroValue,hi,hz,hn,hle,h63',h48',Question.forced,ho,hf,newRow,grownCap]
theorem zFb{t t2 ty e:TypeId}{k k':IntKind}(ht:P.underlying t=some (.slice e))(hu:P.underlying t2=some (.int k)){i:TypeInfo}{z:Value}
  (hi:P.info? e=some i) (hz:i.zero=some z) {n:Nat} (h1:0<n) (hs:0<i.size) (hw:IntKind.i64.wrap (n:Int)=(n:Int)) (hb:(n:Int)*i.bytes≤281474976710656) (h63:(n:Int)≤9223372036854775807)
  (hfit:Builtin.nextslicecap n 0*i.bytes≤281474976710656) {args:Array Value} (a0:args[0]? =some (.slice none 0 0)) (a1:args[1]? =some (.int k' (n:Int))):
  (Builtin.append_ #[t,t2] ty args).run P w=
   .ok (.slice (some ⟨w.heap.size,0,none⟩) n (grownCap w n 0 e))
    (w.drew.alloc (.cells (#[]++(Builtin.zeroCells z.cells n++Builtin.zeroCells z.cells (grownCap w n 0 e - n))) e)):=by
 have h0: ¬ ((n:Int)<0):=by omega
 have hb': ¬ (281474976710656<(n:Int)*i.bytes):=by omega
 have h63': ¬ (9223372036854775807<(n:Int)):=by omega
 have h48': ¬ (281474976710656<Builtin.nextslicecap n 0*i.bytes):=by omega
 have hn0: ¬ (n*i.size=0):=by
  intro h;rcases Nat.mul_eq_zero.1 h with h|h<;>omega
 simp[Builtin.append_,a0,a1,run_underlying ht,run_underlying hu,Go.sizeOf,typeInfo,zeroValue,hi,hz,asInt,hw,h0,hb',h63',h48',Question.forced,newRow,grownCap,Builtin.firstCells,hn0,asIntOf]
 omega
theorem zCi(w:World)(need old:Nat)(e:TypeId):need≤grownCap w need old e:=by
 unfold grownCap
 simp only[Question.cut]
 omega
theorem Rel.lock(h:Rel P φ H w){b:Id}{k:Loc}(hb:φ b=some k){cs:V}{e:TypeId}{sh:List Id}(hx:H.get b=some (.cells cs e 0 sh))
  (hs:H.set b (.cells cs e 1 sh)=some H'):Rel P φ H' w∧Ext φ H w φ H' w:=by
 obtain⟨hbw,hbn,hbr⟩:=h.wf b k hb
 obtain⟨s1,s2,s3,s4⟩:=CH.set_some hs hbw
 have hwr:WrAt H b:=⟨s3,_,hx,rfl⟩
 have one:∀c l y,φ c=some l→c≠b→l.r=k.r→H.get c=some y→Dead y∨ ¬ Wr y:=by
  intro c l y hc hne hlr hy
  rcases h.sep b c k l _ y hb hc (Ne.symm hne) hlr.symm hx hy with hd|hd|⟨hd,_⟩|⟨_,_,_,_,_,_,_,_,hd,_⟩|⟨_,_,_,_,_,_,_,_,hd,_⟩
  ·cases hd
  ·exact .inl hd
  ·exact absurd rfl hd
  ·cases hd
  ·subst hd;exact .inr (by intro e;cases e)
 refine h.and ?_ ?_
 ·refine⟨?_,?_,?_,?_⟩
  ·rw[s1];exact h.nok
  ·intro c l hc
   obtain⟨h1,h2,h3⟩:=h.wf c l hc
   exact⟨h1,by rw[s1];exact h2,h3⟩
  ·intro c l hc
   obtain⟨h1,h2,h3⟩:=h.wf c l hc
   obtain⟨z,h4,h5⟩:=h.blk c l hc
   by_cases ec:c=b
   ·subst ec
    rw[hb]at hc;cases hc
    rw[hx]at h4;cases h4
    refine⟨_,by rw[s4 c h1,if_pos rfl],?_⟩
    rcases h5 with h5|h5
    ·cases h5
    ·exact .inr h5
   ·exact⟨z,by rw[s4 c h1,if_neg ec];exact h4,h5⟩
  ·intro c d l m p q hc hd hne hlr hp hq
   obtain⟨hcw,_,_⟩:=h.wf c l hc
   obtain⟨hdw,_,_⟩:=h.wf d m hd
   rw[s4 c hcw]at hp
   rw[s4 d hdw]at hq
   by_cases ec:c=b
   ·subst ec
    rw[hb]at hc;cases hc
    rw[if_pos rfl]at hp;cases hp
    rw[if_neg (Ne.symm hne)]at hq
    rcases one d m q hd (Ne.symm hne) hlr.symm hq with h1|h1
    ·exact .inr (.inl h1)
    ·exact .inr (.inr (.inl ⟨(by intro e;cases e),h1⟩))
   ·rw[if_neg ec]at hp
    by_cases ed:d=b
    ·subst ed
     rw[hb]at hd;cases hd
     rw[if_pos rfl]at hq;cases hq
     rcases one c l p hc hne hlr hp with h1|h1
     ·exact .inl h1
     ·exact .inr (.inr (.inl ⟨h1,(by intro e;cases e)⟩))
    ·rw[if_neg ed]at hq
     exact h.sep c d l m p q hc hd hne hlr hp hq
 ·refine⟨Phi.le_refl φ,s2,?_,?_,?_,?_,?_,?_,Nat.le_refl _,rfl,rfl,rfl,fun _=>rfl,fun c hcb hcw hd=>by
   obtain⟨cs2,e2,sh2,hd⟩:=hd
   by_cases ec:c=b
   ·subst ec;rw[hx]at hd;cases hd
   ·exact⟨cs2,e2,sh2,by rw[s4 c hcw,if_neg ec];exact hd⟩⟩
  ·intro c l h1 h2;rw[h2]at h1;cases h1
  ·intro c hc;rw[s1];exact hc
  ·intro c l h1 h2;rw[h2]at h1;cases h1
  ·intro r _ _;rfl
  ·rintro c hcb hcw hn ⟨h1,z,h2,h3⟩
   by_cases ec:c=b
   ·subst ec;exact hn hwr
   ·rw[s4 c hcw,if_neg ec]at h2
    exact hn ⟨by rw[←s2];exact h1,z,h2,h3⟩
  ·intro c hcb hcw hf
   rw[s4 c hcw,if_neg]
   rintro rfl;omega
theorem Rel.grow(h:Rel P φ H w){b:Id}{k:Loc}(hb:φ b=some k){cs:V}{e:TypeId}{sh:List Id}(hx:H.get b=some (.cells cs e 0 sh))
  {H₁:CH} (hs:H.set b (.cells cs e 1 sh)=some H₁) (hn:H₁.n.wf) {off:Nat} {new:V} {ys:List Value} (hv:LR φ new ys) (ho:off≤lenL cs) (hfit:lenL cs+ys.length≤k.m)
  (e1:H'.n=H₁.n.next) (e2:H'.fz=H₁.fz) (e3:∀j:Id,j.wf→H'.get j=if j=H₁.n then some (.cells (appV (zDy cs off) new) e 0 (b::sh))else H₁.get j):
  ∃arr el,w.heap[k.r]? =some (.cells arr el (0,0))∧k.o+lenL cs+ys.length≤arr.size∧
   Rel P (φ.with H₁.n ⟨k.r,k.o+off,k.m - off⟩) H' {w with heap:=w.heap.setIfInBounds k.r (.cells (wP arr (k.o+lenL cs) ys) el (0,0))}∧
   Ext φ H w (φ.with H₁.n ⟨k.r,k.o+off,k.m - off⟩) H' {w with heap:=w.heap.setIfInBounds k.r (.cells (wP arr (k.o+lenL cs) ys) el (0,0))}:=by
 obtain⟨hbw,hbn,hbr⟩:=h.wf b k hb
 obtain⟨s1,s2,s3,s4⟩:=CH.set_some hs hbw
 have hwr:WrAt H b:=⟨s3,_,hx,rfl⟩
 obtain⟨z,hz,hbl⟩:=h.blk b k hb
 rw[hx]at hz;cases hz
 rcases hbl with hbl|⟨⟨arr,el,a1,a2,a3,us,a4,a5⟩,a6⟩
 ·cases hbl
 have hlen:=LR.len a4
 have hnone:φ H₁.n=none:=by rw[s1];exact h.none_at_n (by rw[←s1];exact hn)
 have hle:=Phi.le_with (⟨k.r,k.o+off,k.m - off⟩:Loc) hnone
 have hsz:k.o+lenL cs+ys.length≤arr.size:=by omega
 refine⟨arr,el,a1,hsz,h.and ?_ ?_⟩
 ·have hat:(w.heap.setIfInBounds k.r (.cells (wP arr (k.o+lenL cs) ys) el (0,0)))[k.r]? =some (.cells (wP arr (k.o+lenL cs) ys) el (0,0)):=by
   rw[Array.getElem?_setIfInBounds,if_pos rfl,if_pos hbr]
  have hoth:∀r,r≠k.r→(w.heap.setIfInBounds k.r (.cells (wP arr (k.o+lenL cs) ys) el (0,0)))[r]? =w.heap[r]? :=fun r hr=>Array.getElem?_setIfInBounds_ne (Ne.symm hr)
  have hget:∀c l,φ c=some l→H'.get c=if c=b then some (.cells cs e 1 sh)else H.get c:=by
   intro c l hc
   have hcw:=(h.wf c l hc).1
   rw[e3 c hcw,if_neg,s4 c hcw]
   rintro rfl;rw[hnone]at hc;cases hc
  have same:∀c l y,φ c=some l→c≠b→l.r=k.r→H.get c=some y→Dead y∨∃cs' e' sh',y=.cells cs' e' 1 sh'∧c∈sh∧l.o+lenL cs'≤k.o+lenL cs:=by
   intro c l y hc hne hlr hy
   rcases h.sep b c k l _ y hb hc (Ne.symm hne) hlr.symm hx hy with hd|hd|⟨hd,_⟩|⟨_,_,_,_,_,_,_,_,hd,_⟩|⟨_,_,_,cs',e',sh',q1,q2,q3,q4⟩
   ·cases hd
   ·exact .inl hd
   ·exact absurd rfl hd
   ·cases hd
   ·cases q1;exact .inr ⟨cs',e',sh',q3,q2,q4⟩
  have hput:∀i v,i<k.o+lenL cs→arr[i]? =some v→(wP arr (k.o+lenL cs) ys)[i]? =some v:=by
   intro i v hi hv
   rw[zDR _ _ _ _ hsz,if_neg (by omega)];exact hv
  refine⟨?_,?_,?_,?_⟩
  ·rw[e1];exact Id.okN_next hn
  ·intro c l hc
   by_cases ec:c=H₁.n
   ·subst ec
    rw[Phi.with_self]at hc;cases hc
    exact⟨hn,by rw[e1];exact Before.self hn,by simpa using hbr⟩
   ·rw[Phi.with_ne _ ec]at hc
    obtain⟨h1,h2,h3⟩:=h.wf c l hc
    exact⟨h1,by rw[e1];exact Before.next hn (by rw[s1];exact h2),by simpa using h3⟩
  ·intro c l hc
   by_cases ec:c=H₁.n
   ·subst ec
    rw[Phi.with_self]at hc;cases hc
    refine⟨_,by rw[e3 _ hn,if_pos rfl],?_⟩
    show BlkR P _ _ _ ((w.heap.setIfInBounds k.r _)[k.r]?)
    rw[hat]
    have hall:LR (φ.with H₁.n ⟨k.r,k.o+off,k.m - off⟩) (appV (zDy cs off) new) (us.drop off++ys):=(LR.app (a4.drop off) hv).mono hle
    refine .inr ⟨⟨_,el,rfl,?_,?_,us.drop off++ys,hall,?_⟩,?_⟩
    ·rw[zCQ];show k.o+off+(k.m - off)≤arr.size;omega
    ·rw[LR.len hall];show(us.drop off++ys).length≤k.m - off;simp;omega
    ·intro i v hi
     show(wP arr (k.o+lenL cs) ys)[k.o+off+i]? =some v
     by_cases h1:i<us.length - off
     ·rw[List.getElem?_append_left (by simpa using h1),List.getElem?_drop]at hi
      exact hput _ _ (by omega) (by have:=a5 _ _ hi;rwa [show k.o+(off+i)=k.o+off+i by omega]at this)
     ·rw[List.getElem?_append_right (by simp;omega)]at hi
      have h2:i - (us.drop off).length<ys.length:=by
       obtain⟨h3,_⟩:=List.getElem?_eq_some_iff.1 hi;exact h3
      simp at hi h2
      rw[zDR _ _ _ _ hsz,if_pos (by omega),←hi];congr 1;omega
    ·intro s hs
     rcases List.mem_cons.1 hs with rfl|hs
     ·exact hbw
     ·exact a6 s hs
   ·rw[Phi.with_ne _ ec]at hc
    obtain⟨z,h4,h5⟩:=h.blk c l hc
    rw[hget c l hc]
    by_cases eb:c=b
    ·subst eb
     rw[hb]at hc;cases hc
     refine⟨_,by rw[if_pos rfl],?_⟩
     show BlkR P _ _ _ ((w.heap.setIfInBounds k.r _)[k.r]?)
     rw[hat]
     exact .inr ⟨⟨_,el,rfl,by rw[zCQ];exact a2,a3,us,a4.mono hle,fun i v hi=>hput _ _ (by obtain⟨h3,_⟩:=List.getElem?_eq_some_iff.1 hi;omega) (a5 i v hi)⟩,a6⟩
    ·refine⟨z,by rw[if_neg eb];exact h4,?_⟩
     show BlkR P _ _ _ ((w.heap.setIfInBounds k.r _)[l.r]?)
     by_cases er:l.r=k.r
     ·rcases same c l z hc eb er h4 with hd|⟨cs',e',sh',rfl,q2,q3⟩
      ·cases z with
       |cells=>exact .inl hd
       |_=>exact hd.elim
      ·rcases h5 with h5|⟨⟨arr',el',b1,b2,b3,us',b4,b5⟩,b6⟩
       ·cases h5
       ·rw[er,a1]at b1;cases b1
        rw[er,hat]
        refine .inr ⟨⟨_,el,rfl,by rw[zCQ];exact b2,b3,us',b4.mono hle,fun i v hi=>hput _ _ ?_ (b5 i v hi)⟩,b6⟩
        obtain⟨h3,_⟩:=List.getElem?_eq_some_iff.1 hi
        have:=LR.len b4
        omega
     ·rw[hoth _ er];exact h5.mono hle
  ·have newsep:∀c l y,φ c=some l→l.r=k.r→H'.get c=some y→Dead y∨Under c y l (.cells (appV (zDy cs off) new) e 0 (b::sh)) ⟨k.r,k.o+off,k.m - off⟩:=by
    intro c l y hc hlr hy
    rw[hget c l hc]at hy
    have hl2:lenL (appV (zDy cs off) new)=lenL cs - off+ys.length:=by
     rw[LR.len (LR.app (a4.drop off) hv)];simp;omega
    by_cases eb:c=b
    ·subst eb
     rw[hb]at hc;cases hc
     rw[if_pos rfl]at hy;cases hy
     exact .inr ⟨_,_,_,_,_,_,rfl,by simp,rfl,by rw[hl2];show k.o+lenL cs≤k.o+off+_;omega⟩
    ·rw[if_neg eb]at hy
     rcases same c l y hc eb hlr hy with hd|⟨cs',e',sh',rfl,q2,q3⟩
     ·exact .inl hd
     ·exact .inr ⟨_,_,_,_,_,_,rfl,by simp[q2],rfl,by rw[hl2];show _≤k.o+off+_;omega⟩
   intro c d l m p q hc hd hne hlr hp hq
   by_cases ec:c=H₁.n
   ·subst ec
    rw[Phi.with_self]at hc;cases hc
    rw[Phi.with_ne _ (Ne.symm hne)]at hd
    rw[e3 _ hn,if_pos rfl]at hp;cases hp
    rcases newsep d m q hd hlr.symm hq with h1|h1
    ·exact .inr (.inl h1)
    ·exact .inr (.inr (.inr (.inr h1)))
   ·rw[Phi.with_ne _ ec]at hc
    by_cases ed:d=H₁.n
    ·subst ed
     rw[Phi.with_self]at hd;cases hd
     rw[e3 _ hn,if_pos rfl]at hq;cases hq
     rcases newsep c l p hc hlr hp with h1|h1
     ·exact .inl h1
     ·exact .inr (.inr (.inr (.inl h1)))
    ·rw[Phi.with_ne _ ed]at hd
     obtain⟨r1,r2⟩:=h.lock hb hx hs
     have hcw:=(h.wf c l hc).1
     have hdw:=(h.wf d m hd).1
     rw[e3 c hcw,if_neg ec]at hp
     rw[e3 d hdw,if_neg ed]at hq
     exact r1.sep c d l m p q hc hd hne hlr hp hq
 ·refine⟨hle,e2.trans s2,?_,?_,?_,?_,?_,?_,by simp,rfl,rfl,rfl,zFB w a1 rfl rfl,fun c hcb hcw hd=>by
   obtain⟨cs2,e2,sh2,hd⟩:=hd
   by_cases ec:c=b
   ·subst ec;rw[hx]at hd;cases hd
   ·exact⟨cs2,e2,sh2,by rw[e3 c hcw,if_neg (by rintro rfl;rw[←s1]at hcb;exact zU hn hcb),s4 c hcw,if_neg ec];exact hd⟩⟩
  ·intro c l hc hc0
   by_cases ec:c=H₁.n
   ·subst ec;rw[←s1];exact zU hn
   ·rw[Phi.with_ne _ ec,hc0]at hc;cases hc
  ·intro c hc;rw[e1];exact Before.next hn (by rw[s1];exact hc)
  ·intro c l hc hc0
   by_cases ec:c=H₁.n
   ·subst ec;rw[Phi.with_self]at hc;cases hc;exact .inr ⟨b,k,hb,rfl,hwr⟩
   ·rw[Phi.with_ne _ ec,hc0]at hc;cases hc
  ·intro r _ hall
   exact Array.getElem?_setIfInBounds_ne (fun e=>hall b k hb e hwr)
  ·rintro c hcb hcw hw ⟨h1,y,h2,h3⟩
   have hne:c≠H₁.n:=by rintro rfl;rw[←s1]at hcb;exact zU hn hcb
   rw[e3 c hcw,if_neg hne,s4 c hcw]at h2
   by_cases ec:c=b
   ·subst ec;exact hw hwr
   ·rw[if_neg ec]at h2
    exact hw ⟨by rw[←s2,←e2];exact h1,y,h2,h3⟩
  ·intro c hcb hcw hf
   have hne:c≠H₁.n:=by rintro rfl;rw[←s1]at hcb;exact zU hn hcb
   rw[e3 c hcw,if_neg hne,s4 c hcw,if_neg]
   rintro rfl;omega
end Vam
namespace Vam
open Go
variable {P:Program}{φ:Phi}{H H':CH}{w:World}{v:V}
theorem zEt{α:Type}{no r:α}{f:V→TypeId→Nat→List Id→α}{b:Option Blk}(h:yS no f b=r)(hr:r≠no):
  (∃cs e st sh,b=some (.cells cs e st sh)∧st≠2∧f cs e st sh=r)∨(∃cs,b=some (.arg cs)∧f cs 0 1 []=r):=by
 cases b with
 |none=>exact absurd h.symm hr
 |some x=>
  cases x with
  |cells cs e st sh=>
   left
   change cond (Nat.beq st 2) no (f cs e st sh)=r at h
   obtain⟨h1,h2⟩:=zAo h hr
   exact⟨cs,e,st,sh,rfl,by rintro rfl;exact absurd h1 (by decide),h2⟩
  |arg cs=>exact .inr ⟨cs,rfl,h⟩
  |_=>exact absurd h.symm hr
theorem zFO:∀(l:List UInt8),LR φ (zFm (l.map (·.toNat))) (l.map fun b=>Value.int .u8 b.toNat):=by
 intro l
 induction l with
 |nil=>exact .nil
 |cons x l ih=>exact .cons _ _ _ _ (.int _ _) ih
theorem zHP(h:Rel P φ H w){x:V}{xv:Value}{size n:Nat}{new:V}(hx:VR φ x xv)(hl:lenOf x=some n)(hr:firstCells H size n x=some new):
  ∃nv:Array Value,(∀w',(Builtin.lenOf xv).run P w'=.ok n w')∧(∀w':World,w'.heap=w.heap→(Builtin.firstCells size n xv).run P w'=.ok nv w')∧LR φ new nv.toList∧nv.size=n*size:=by
 cases x with
 |str s=>
  cases hx with
  |str b=>
   cases(show some (bytesOf b).length=some n from hl)
   obtain⟨hb1,hr⟩:=zH (show cond (Nat.beq size 1) (some (zFm ((bytesOf b).take (bytesOf b).length))) none=some new from hr) (by simp)
   obtain rfl:=zl hb1
   cases hr
   have hlen:(bytesOf b).length=b.size:=by unfold bytesOf;rw[List.length_map,Array.length_toList];rfl
   refine⟨b.data.map fun c=>.int .u8 c.toNat,fun w'=>by simp[Builtin.lenOf,hlen],fun w' _=>?_,?_,by rw[Array.size_map,hlen,Nat.mul_one];rfl⟩
   ·rw[hlen]
    have:b.extract 0 b.size=b:=by
     apply ByteArray.ext
     rw[ByteArray.data_extract,show b.size=b.data.size from rfl,Array.extract_size]
    simp[Builtin.firstCells,this]
   ·rw[List.take_length]
    have:=zFO (φ:=φ) b.data.toList
    simpa[bytesOf]using this
 |slice b off len cc sz=>
  cases hx with
  |empty _ a=>
   cases(show some 0=some n from hl)
   have hr:zX H .over 0 (Nat.mul 0 size)=some new:=hr
   rw[show Nat.mul 0 size=0 from Nat.zero_mul _]at hr
   cases(show some V.nil=some new from hr)
   exact⟨#[],fun w'=>by simp[Builtin.lenOf],fun w' _=>run_firstCells_some w' size 0 a 0 0 [] (by simp) (fun j v hj=>by simp at hj),.nil,by simp⟩
  |loose _ a c0=>
   cases(show some 0=some n from hl)
   have hr:zX H .over 0 (Nat.mul 0 size)=some new:=hr
   rw[show Nat.mul 0 size=0 from Nat.zero_mul _]at hr
   cases(show some V.nil=some new from hr)
   exact⟨#[],fun w'=>by simp[Builtin.lenOf],fun w' _=>run_firstCells_some w' size 0 a 0 c0 [] (by simp) (fun j v hj=>by simp at hj),.nil,by simp⟩
  |slice _ _ _ _ _ cap k hk hc=>
   cases(show some len=some n from hl)
   obtain⟨vs,g1,g2,g3⟩:=zBK h hk (show zX H b off (Nat.mul n size)=some new from hr)
   refine⟨vs.toArray,fun w'=>by simp[Builtin.lenOf],fun w' hw=>?_,by simpa using g2,by simpa using g1⟩
   refine run_firstCells_some w' size n _ n cap vs g1 (fun j v hj=>?_)
   rw[wE]
   have:=g3 j v hj
   simpa[World.cell?,hw]using this
 |nils=>
  cases hx
  cases(show some 0=some n from hl)
  cases(show natC (some .nil) (fun _=>none) 0=some new from hr)
  exact⟨#[],fun w'=>by simp[Builtin.lenOf],fun w' _=>by simp[Builtin.firstCells],.nil,by simp⟩
 |_=>cases hl
theorem fresh_rel(h:Rel P φ H w)(hn:H.n.wf){cells:V}{e':TypeId}{sh:List Id}(hsh:∀s∈sh,s.wf){arr rest:Array Value}(hl:LR φ cells arr.toList){need size cap:Nat}
  (h0:arr.size=need*size) (hrest:rest.size=(cap - need)*size) (hcap:need≤cap) (el:TypeId)
  (e1:H'.n=H.n.next) (e2:H'.fz=H.fz) (e3:∀j:Id,j.wf→H'.get j=if j=H.n then some (.cells cells e' 0 sh)else H.get j):
  ∃φ',Rel P φ' H' (w.drew.alloc (.cells (arr++rest) el))∧Ext φ H w φ' H' (w.drew.alloc (.cells (arr++rest) el))∧
   VR φ' (.slice H.n 0 need (capA need) size) (.slice (some ⟨w.heap.size,0,none⟩) need cap):=by
 have hd:Rel P φ H w.drew:=⟨⟨h.nok,h.wf,h.blk,h.sep⟩,h.gl⟩
 have hnone:=h.none_at_n hn
 have hle:=Phi.le_with (⟨w.heap.size,0,cap*size⟩:Loc) hnone
 have hcs:cap*size=need*size+(cap - need)*size:=by rw[←Nat.add_mul];congr 1;omega
 have hlen:=LR.len hl
 obtain⟨r1,r2⟩:=Rel.alloc (o:=.cells (arr++rest) el) (m:=cap*size) hd hn e1 e2 e3 (by
  refine .inr ⟨⟨_,el,rfl,?_,?_,arr.toList,hl.mono hle,?_⟩,hsh⟩
  ·show 0+cap*size≤(arr++rest).size
   simp;omega
  ·show lenL cells≤cap*size
   rw[hlen];simp;omega
  ·intro i u hi
   show(arr++rest)[0+i]? =some u
   have hi':arr[i]? =some u:=by simpa using hi
   obtain⟨h3,_⟩:=Array.getElem?_eq_some_iff.1 hi'
   rw[Nat.zero_add,Array.getElem?_append_left h3];exact hi')
 refine⟨_,r1,?_,?_⟩
 ·exact {r2 with}
 ·have hc:CapOk ⟨w.heap.size,0,cap*size⟩ 0 need (capA need) size cap:=by
   have e5:capN (capA need)=need:=by
    show(2*need) / 2=need;omega
   have e6:capE (capA need)=false:=by
    show Nat.beq ((2*need) % 2) 1=false
    rw[Nat.mul_mod_right];rfl
   refine⟨by rw[e5];exact Nat.le_refl _,fun he=>(by rw[e6]at he;cases he),fun _=>⟨by rw[e5];exact hcap,by show 0+cap*size≤cap*size;omega⟩⟩
  exact .slice H.n 0 need (capA need) size cap _ (Phi.with_self φ H.n _) hc
theorem fits{need old n bytes cells:Nat}(hb:need*(bytes+cells)≤16777216)(hg:old<need)(hn:n=need)(hc:0<cells):
  ((need:Nat):Int)≤9223372036854775807∧Builtin.nextslicecap need old*bytes≤281474976710656:=by
 have h1:need*1≤need*(bytes+cells):=Nat.mul_le_mul_left need (by omega)
 have h2:need*bytes≤need*(bytes+cells):=Nat.mul_le_mul_left need (by omega)
 exact⟨by omega,growslice_fits hg (by omega)⟩
theorem zHU{t:TypeId}{z:V}(h:yf P t=some z){i:TypeInfo}(hi:P.info? t=some i):∃zv,i.zero=some zv∧∀φ:Phi,LR φ z zv.cells.toList:=by
 unfold yf at h
 rw[hi]at h
 split at h
 ·rename_i i' hi'
  cases hi'
  split at h
  ·rename_i zv hz
   split at h
   ·rename_i x hx
    cases h
    exact⟨zv,hz,fun φ=>zEg (zDS hx)⟩
   ·cases h
  ·cases h
 ·rename_i h1;cases h1
theorem sim_appendZ(h:Rel P φ H w){t t2 elem:TypeId}{ty:TypeId}{cn:Array Bool}{kk:IntKind}{s x:V}{args:Array Value}{sv xv:Value}(a0:args[0]? =some sv)(a1:args[1]? =some xv)
  (hs:VR φ s sv) (hx:VR φ x xv) (ht:tyOf P t=.slice elem) (hu:P.underlying t2=some (.int kk)) (hr:appendZ P elem H s x=.ok v H'):Sim P φ H w (builtin .append #[t,t2] ty cn args) v H':=by
 obtain⟨g1,g2⟩:=zq ht
 obtain⟨⟨i,hi⟩,_⟩:=yV g2
 have his:i.size=P.cellsOf elem:=by simp[Program.cellsOf,hi]
 have hib:i.bytes=P.bytesOf elem:=by simp[Program.bytesOf,hi]
 rcases wC (show yx R.no (fun _ _ _ _ _=>R.no) (zFe R.no (fun n=>opt R.no (zCe P elem H n) (yf P elem)) x) s=.ok v H' from hr) R.ok_ne with ⟨_,_,_,_,_,_,h1⟩|⟨rfl,h1⟩
 ·cases h1
 obtain⟨k',n,rfl,h2⟩:=zBL h1 R.ok_ne
 obtain⟨z,hz,h3⟩:=zP h2 R.ok_ne
 obtain⟨e1,h4⟩:=zH (show cond (Nat.ble (Nat.succ 0) n) _ R.no=.ok v H' from h3) R.ok_ne
 obtain⟨e2,h5⟩:=zH h4 R.ok_ne
 obtain⟨e3,h6⟩:=zH h5 R.ok_ne
 obtain⟨e4,h7⟩:=zH h6 R.ok_ne
 have e1:0<n:=Nat.le_of_ble_eq_true e1
 have e2:0<P.cellsOf elem:=Nat.le_of_ble_eq_true e2
 have e3:n*(P.bytesOf elem+P.cellsOf elem)≤16777216:=Nat.le_of_ble_eq_true e3
 have e4:=zl e4
 obtain⟨zv,z1,z2⟩:=zHU hz hi
 have z3:zv.cells.size=P.cellsOf elem:=by
  have:=e4
  rw[zAR,LR.len (z2 φ)]at this;simpa using this
 cases hs
 cases hx
 obtain⟨h63,hfit⟩:=fits (n:=n) (old:=0) e3 e1 rfl e2
 have hnn:n*1≤n*(P.bytesOf elem+P.cellsOf elem):=Nat.mul_le_mul_left n (by omega)
 have hnb:n*P.bytesOf elem≤n*(P.bytesOf elem+P.cellsOf elem):=Nat.mul_le_mul_left n (by omega)
 have hwr:IntKind.i64.wrap ((n:Nat):Int)=(n:Int):=by
  have h5:n≤16777216:=by omega
  simp[IntKind.wrap,IntKind.bits,IntKind.signed]
  omega
 have hbb:((n:Nat):Int)*i.bytes≤281474976710656:=by
  rw[hib]
  have:((n*P.bytesOf elem:Nat):Int)≤16777216:=by omega
  rw[Int.natCast_mul]at this
  omega
 have hrun:=zFb (w:=w) (P:=P) (ty:=ty) (k':=k') g1 hu hi z1 e1 (by rw[his];exact e2) hwr hbb h63 (by rw[hib];exact hfit) a0 a1
 obtain⟨H₂,q1,q2,q3,q4,q5⟩:=wK h7 R.ok_ne h.nok
 cases q1
 have hd:Rel P φ H w:=h
 have hcells:(Builtin.zeroCells zv.cells n).toList=(List.replicate n zv.cells.toList).flatten:=zAg zv.cells n (.inl (by rw[z3];exact e2))
 obtain⟨φ',r1,r2,r3⟩:=fresh_rel (arr:=Builtin.zeroCells zv.cells n) (rest:=Builtin.zeroCells zv.cells (grownCap w n 0 elem - n)) (need:=n) (size:=P.cellsOf elem) (cap:=grownCap w n 0 elem)
  h q2 (sh:=[]) (by simp) (by rw[hcells];exact LR.rep (z2 φ) n) (by rw[size_zeroCells,z3]) (by rw[size_zeroCells,z3]) (zCi _ _ _ _) elem q3 q4 q5
 rw[Array.empty_append]at hrun
 exact⟨φ',_,_,.inl (by simp[builtin,hrun]),r1,r2,r3⟩
theorem sim_appendS(h:Rel P φ H w){ts:Array TypeId}{ty:TypeId}{cn:Array Bool}{s x:V}{args:Array Value}{sv xv:Value}(a0:args[0]? =some sv)(a1:args[1]? =some xv)
  (hs:VR φ s sv) (hx:VR φ x xv) (hno:∀t t2 k,ts.toList=[t,t2]→tyOf P t2≠.int k) (hr0:wd P ts.toList H s x=.ok v H'):Sim P φ H w (builtin .append ts ty cn args) v H':=by
 obtain⟨t,t2,elem,hts,ht,hel,hu,hr⟩:∃t t2 elem,ts.toList=[t,t2]∧P.underlying t=some (.slice elem)∧zCt P elem=true∧
   ((∃e2,P.underlying t2=some (.slice e2))∨P.underlying t2=some .string)∧wp P elem H s x=.ok v H':=by
  unfold wd at hr0
  split at hr0
  ·rename_i t t2 hts
   split at hr0
   ·rename_i e2 elem h1 h2
    exact⟨t,t2,elem,hts,(zq h2).1,(zq h2).2,.inl ⟨_,(zq h1).1⟩,hr0⟩
   ·rename_i elem h1 h2
    exact⟨t,t2,elem,hts,(zq h2).1,(zq h2).2,.inr (zAB h1),hr0⟩
   ·rename_i k elem h1 h2
    exact absurd h1 (hno t t2 k hts)
   ·cases hr0
  ·cases hr0
 obtain rfl:ts= #[t,t2]:=Array.ext' (by rw[hts])
 obtain⟨⟨i,hi⟩,_⟩:=yV hel
 have hsz:(Go.sizeOf elem).run P w=Result.ok (P.cellsOf elem) w:=yI ⟨i,hi⟩ w
 have his:i.size=P.cellsOf elem:=by simp[Program.cellsOf,hi]
 have hib:i.bytes=P.bytesOf elem:=by simp[Program.bytesOf,hi]
 have wrap:∀{u:Value} {w':World} {φ':Phi},(Builtin.append_ #[t,t2] ty args).run P w=.ok u w'→Rel P φ' H' w'→Ext φ H w φ' H' w'→VR φ' v u→Sim P φ H w (builtin .append #[t,t2] ty cn args) v H':=by
  intro u w' φ' h1 h2 h3 h4
  exact⟨φ',w',u,.inl (by simp[builtin,h1]),h2,h3,h4⟩
 clear hr0 hts
 unfold wp at hr
 obtain⟨n,hl,hr⟩:=zP hr R.ok_ne
 obtain⟨hb,hr⟩:=zH hr R.ok_ne
 have hb:=Nat.le_of_ble_eq_true hb
 generalize hc:P.cellsOf elem=size at*
 obtain⟨s1,hs1,hr⟩:∃s1,size=Nat.succ s1∧opt .no (fun new=>yx .no (zDK P H elem (Nat.succ s1) n new) (wJ P H elem (Nat.succ s1) n new) s) (firstCells H (Nat.succ s1) n x)=.ok v H':=by
  cases size with
  |zero=>cases hr
  |succ s1=>exact⟨s1,rfl,hr⟩
 have hpos:0<size:=by rw[hs1];exact Nat.succ_pos s1
 rw[←hs1]at hr
 clear hs1
 ·obtain⟨new,hf,hr⟩:=zP hr R.ok_ne
  obtain⟨nv,f1,f2,f3,f4⟩:=zHP h hx hl hf
  have fresh:∀{H₁:CH} {base:Option Addr} {sLen sCap:Nat} {old:Array Value} {cells z:V} {e':TypeId} {sh:List Id},Rel P φ H₁ w→Ext φ H w φ H₁ w→args[0]? =some (.slice base sLen sCap)→
    (Builtin.firstCells size sLen (.slice base sLen sCap)).run P w.drew=.ok old w.drew→ ¬ (sLen+n≤sCap)→(sLen+n)*(P.bytesOf elem+size)≤16777216→yf P elem=some z→lenV z 0=size→
    LR φ cells (old.toList++nv.toList)→old.size=sLen*size→(∀s∈sh,s.wf)→
    alloc R.no H₁ (.cells cells e' 0 sh) (fun m H=>R.ok (.slice m 0 (sLen+n) (capA (sLen+n)) size) H)=.ok v H'→Sim P φ H w (builtin .append #[t,t2] ty cn args) v H':=by
   intro H₁ base sLen sCap old cells z e' sh q1 q2 q3 q4 q5 q6 q7 q8 q9 q10 q11 q12
   obtain⟨zv,z1,z2⟩:=zHU q7 hi
   have z3:zv.cells.size=size:=by
    rw[zAR,LR.len (z2 φ)]at q8;simpa using q8
   obtain⟨h63,hfit⟩:=fits (n:=sLen+n) q6 (Nat.lt_of_not_le q5) rfl hpos
   have hrun:=zFd (w:=w) (ty:=ty) ht hu hi z1 (f1 w) (by rw[his];exact q4) (by rw[his];exact f2 w.drew rfl) q5 h63 (by rw[hib];exact hfit) q3 a1
   obtain⟨H₂,e1,e2,e3,e4,e5⟩:=wK q12 R.ok_ne q1.nok
   cases e1
   obtain⟨φ',r1,r2,r3⟩:=fresh_rel (arr:=old++nv) (rest:=Builtin.zeroCells zv.cells (grownCap w (sLen+n) sCap elem - (sLen+n))) (need:=sLen+n) (size:=size) (cap:=grownCap w (sLen+n) sCap elem)
    q1 e2 q11 (by simpa using q9) (by simp[q10,f4,Nat.add_mul]) (by rw[size_zeroCells,z3]) (zCi _ _ _ _) elem e3 e4 e5
   rw[Array.append_assoc]at r1 r2
   exact wrap hrun r1 (q2.trans h r2) r3
  rcases wC hr R.ok_ne with ⟨b,off,len,cc,sz,rfl,hr⟩|⟨rfl,hr⟩
  ·cases hs with
   |empty _ a=>
    have hb:(0+n)*(P.bytesOf elem+size)≤16777216:=hb
    obtain⟨hsz',hr⟩:=zH (show cond (Nat.beq sz size) _ R.no=.ok v H' from hr) R.ok_ne
    obtain rfl:=zl hsz'
    cases n with
    |zero=>
     have hr:zAY H sz 0 new .over 0 0 (capX 0)=.ok v H':=hr
     have hnv:nv.toList=[]:=by
      have:nv.size=0:=by rw[f4,Nat.zero_mul]
      apply List.length_eq_zero_iff.1;simpa using this
     have hnew:new=.nil:=by
      rw[hnv]at f3;cases f3;rfl
     subst hnew
     cases(show R.ok (.slice .over 0 0 (capX 0) sz) H=.ok v H' from hr)
     exact wrap (w':=w) (zAM ht hu hsz (f1 w) (f2 w rfl) (Nat.le_refl _) a0 a1 (by rw[hnv];simp[storeCells])) h (.refl _ _ _) (.empty _ a)
    |succ n=>
     have hr:yd P H elem sz (Nat.add 0 (n+1)) new .over 0 0 (capX 0)=.ok v H':=hr
     unfold yd at hr
     obtain⟨z,hz,hr⟩:=zP hr R.ok_ne
     obtain⟨hb1,hr⟩:=zH hr R.ok_ne
     obtain⟨hb2,hr⟩:=zH hr R.ok_ne
     have hr:opt R.no (fun old=>yy H elem sz (0+(n+1)) (appV old new)) (zX H .over 0 (Nat.mul 0 sz))=R.ok v H':=hr
     rw[show Nat.mul 0 sz=0 from Nat.zero_mul _]at hr
     have hr:yy H elem sz (0+(n+1)) (appV .nil new)=R.ok v H':=hr
     exact fresh h (.refl _ _ _) a0 (old:= #[]) (run_firstCells_some w.drew sz 0 a 0 0 [] (by simp) (fun j v hj=>by simp at hj)) (by omega) hb hz (zl hb1) (by rw[appV_nil];simpa using f3) (by simp) (sh:=[]) (by simp) hr
   |loose _ a c0=>
    obtain⟨hsz',hr⟩:=zH (show cond (Nat.beq sz size) _ R.no=.ok v H' from hr) R.ok_ne
    obtain rfl:=zl hsz'
    cases n with
    |zero=>
     have hr:zAY H sz 0 new .over 0 0 (capA 0)=.ok v H':=hr
     have hnv:nv.toList=[]:=by
      have:nv.size=0:=by rw[f4,Nat.zero_mul]
      apply List.length_eq_zero_iff.1;simpa using this
     have hnew:new=.nil:=by
      rw[hnv]at f3;cases f3;rfl
     subst hnew
     cases(show R.ok (.slice .over 0 0 (capA 0) sz) H=.ok v H' from hr)
     exact wrap (w':=w) (zAM ht hu hsz (f1 w) (f2 w rfl) (Nat.zero_le _) a0 a1 (by rw[hnv];simp[storeCells])) h (.refl _ _ _) (.loose _ a c0)
    |succ n=>
     have hr:yd P H elem sz (Nat.add 0 (n+1)) new .over 0 0 (capA 0)=.ok v H':=hr
     unfold yd at hr
     obtain⟨z,hz,hr⟩:=zP hr R.ok_ne
     obtain⟨hb1,hr⟩:=zH hr R.ok_ne
     obtain⟨hb2,hr⟩:=zH hr R.ok_ne
     have hr:yS R.no (zDb H .over 0 (Nat.mul 0 sz) sz (Nat.add 0 (n+1)) new) (H.get .over)=R.ok v H':=hr
     rw[show H.get .over=none by cases H;rfl]at hr
     cases hr
   |slice _ _ _ _ _ cap k hk hcap=>
    have hb:(len+n)*(P.bytesOf elem+size)≤16777216:=hb
    obtain⟨hsz',hr⟩:=zH (show cond (Nat.beq sz size) _ R.no=.ok v H' from hr) R.ok_ne
    obtain rfl:=zl hsz'
    obtain⟨hcap1,hcap2,hcap3⟩:=hcap
    cases hble:Nat.ble (Nat.add len n) (capN cc)with
    |true=>
     rw[hble]at hr
     have hr:zAY H sz (Nat.add len n) new b off len cc=.ok v H':=hr
     have hle:len+n≤capN cc:=Nat.le_of_ble_eq_true hble
     have hlecap:len+n≤cap:=by
      cases he:capE cc with
      |true=>rw[hcap2 he];exact hle
      |false=>exact Nat.le_trans hle (hcap3 he).1
     have hvr:∀{φ':Phi},φ' b=some k→VR φ' (.slice b off (len+n) cc sz) (.slice (some ⟨k.r,k.o+off,none⟩) (len+n) cap):=fun hk'=>.slice _ _ _ _ _ _ _ hk' ⟨hle,hcap2,hcap3⟩
     unfold zAY at hr
     cases new with
     |nil=>
      cases(show R.ok (.slice b off (len+n) cc sz) H=.ok v H' from hr)
      have:nv.toList=[]:=LR.inv_nil f3
      exact wrap (w':=w) (zAM ht hu hsz (f1 w) (f2 w rfl) hlecap a0 a1 (by rw[this];simp[storeCells])) h (.refl _ _ _) (hvr hk)
     |cons y l=>
      obtain⟨H₁,g1,g2⟩:=zP (show opt R.no (fun H'=>R.ok (.slice b off (len+n) cc sz) H') (zk H b (Nat.add off (Nat.mul len sz)) (.cons y l))=R.ok v H' from hr) R.ok_ne
      cases g2
      obtain⟨arr,el,g3,g4,g5,g6,g7⟩:=Rel.write h hk f3 g1
      have hst:=wq (P:=P) ((⟨k.r,k.o+off,none⟩:Addr).add (len*sz)) k.r (k.o+(off+len*sz)) el nv.toList 0 w arr (by
       intro j;rw[wE,wE];simp[Nat.add_assoc]) g3 g5 (by simpa[Nat.add_assoc]using g4)
      exact wrap (zAM ht hu hsz (f1 w) (f2 w rfl) hlecap a0 a1 hst) g6 g7 (hvr hk)
     |_=>cases hr
    |false=>
     rw[hble]at hr
     have hr:yd P H elem sz (Nat.add len n) new b off len cc=.ok v H':=hr
     have hnle: ¬ len+n≤capN cc:=fun hc=>by
      have:=Nat.ble_eq_true_of_le hc
      rw[show Nat.ble (len+n) (capN cc)=false from hble]at this;cases this
     unfold yd at hr
     obtain⟨z,hz,hr⟩:=zP hr R.ok_ne
     obtain⟨hb1,hr⟩:=zH hr R.ok_ne
     obtain⟨hb2,hr⟩:=zH hr R.ok_ne
     cases he:capE cc with
     |true=>
      rw[he]at hr
      obtain⟨old,ho,hr⟩:=zP (show opt R.no (fun old=>yy H elem sz (len+n) (appV old new)) (zX H b off (Nat.mul len sz))=R.ok v H' from hr) R.ok_ne
      obtain⟨vs,g1,g2,g3⟩:=zBK h hk ho
      exact fresh h (.refl _ _ _) a0 (old:=vs.toArray) (run_firstCells_some w.drew sz len _ len cap vs g1 (fun j u hj=>by rw[wE];exact g3 j u hj)) (by rw[hcap2 he];exact hnle) hb hz (zl hb1)
       (LR.app (by simpa using g2) f3) (by simpa using g1) (sh:=[]) (by simp) hr
     |false=>
      rw[he]at hr
      obtain⟨hcn,hcm⟩:=hcap3 he
      rcases zEt (show yS R.no (zDb H b off (Nat.mul len sz) sz (len+n) new) (H.get b)=R.ok v H' from hr) R.ok_ne with ⟨cs,e,st,sh,g1,_,hr⟩|⟨cs,_,hr⟩
      ·obtain⟨h0,hr1⟩:=zH hr R.ok_ne
       clear hr
       obtain rfl:=zl h0
       obtain⟨h2,hr⟩:=zH hr1 R.ok_ne
       have h2:lenL cs=off+len*sz:=by have:=zl h2;rw[zAR]at this;simpa using this
       obtain⟨H₁,hset,hr⟩:=zP hr R.ok_ne
       obtain⟨r1,r2⟩:=h.lock hk g1 hset
       by_cases hin:len+n≤cap
       ·obtain⟨H₂,e1,e2,e3,e4,e5⟩:=wK hr R.ok_ne r1.nok
        cases e1
        have hy:nv.toList.length=n*sz:=by simpa using f4
        have hmul:(len+n)*sz≤cap*sz:=Nat.mul_le_mul_right sz hin
        have hmul2:(len+n)*sz=len*sz+n*sz:=Nat.add_mul _ _ _
        obtain⟨arr,el,g3,g4,g5,g6⟩:=Rel.grow (off:=off) h hk g1 hset e2 f3 (by omega) (by rw[hy];omega) e3 e4 e5
        have hst:=wq (P:=P) ((⟨k.r,k.o+off,none⟩:Addr).add (len*sz)) k.r (k.o+lenL cs) el nv.toList 0 w arr (by
         intro j;rw[wE,wE,h2];simp[Nat.add_assoc]) g3 (zFN f3 hb2) (by simpa using g4)
        refine wrap (zAM ht hu hsz (f1 w) (f2 w rfl) hin a0 a1 hst) g5 g6 ?_
        have e7:capN (capA (len+n))=len+n:=by
         show(2*(len+n)) / 2=len+n;omega
        have e8:capE (capA (len+n))=false:=by
         show Nat.beq ((2*(len+n)) % 2) 1=false
         rw[Nat.mul_mod_right];rfl
        have hco:CapOk ⟨k.r,k.o+off,k.m - off⟩ 0 (len+n) (capA (len+n)) sz cap:=
         ⟨by rw[e7];exact Nat.le_refl _,fun he=>(by rw[e8]at he;cases he),fun _=>⟨by rw[e7];exact hin,by show 0+cap*sz≤k.m - off;omega⟩⟩
        exact .slice H₁.n 0 (len+n) (capA (len+n)) sz cap ⟨k.r,k.o+off,k.m - off⟩ (Phi.with_self φ H₁.n _) hco
       ·obtain⟨x0,hx0,hbl⟩:=h.blk b k hk
        rw[g1]at hx0;cases hx0
        rcases hbl with hbl|⟨⟨arr,el,b1,b2,b3,us,b4,b5⟩,b6⟩
        ·cases hbl
        have hlu:=LR.len b4
        refine fresh r1 r2 a0 (old:=(us.drop off).toArray) (run_firstCells_some w.drew sz len _ len cap (us.drop off) (by rw[List.length_drop];omega) (fun j u hj=>?_)) hin hb hz (zl hb1)
         (LR.app (by simpa using b4.drop off) f3) (by simp;omega) (sh:=b::sh) ?_ hr
        ·rw[wE]
         rw[List.getElem?_drop]at hj
         have:=b5 _ _ hj
         show w.cell? _=_
         rw[zDa b1,Nat.add_assoc];exact this
        ·intro s hs
         rcases List.mem_cons.1 hs with rfl|hs
         ·exact(h.wf _ _ hk).1
         ·exact b6 s hs
      ·obtain⟨h0,hr⟩:=zH hr R.ok_ne
       cases h0
  ·cases hs
   have hb:(0+n)*(P.bytesOf elem+size)≤16777216:=hb
   cases n with
   |zero=>
    cases(show R.ok .nils H=.ok v H' from hr)
    exact wrap (zFc ht hu hsz (f1 w) (f2 w rfl) a0 a1) h (.refl _ _ _) .nils
   |succ n=>
    obtain⟨z,hz,hr⟩:=zP (show opt R.no (fun z=>cond (Nat.beq (lenV z 0) size) (cond (we new) (yy H elem size (n+1) new) R.no) R.no) (yf P elem)=R.ok v H' from hr) R.ok_ne
    obtain⟨hb1,hr⟩:=zH hr R.ok_ne
    obtain⟨hb2,hr⟩:=zH hr R.ok_ne
    rw[←Nat.zero_add (n+1)]at hr
    exact fresh h (.refl _ _ _) a0 (old:= #[]) (by simp[Builtin.firstCells]) (by omega) hb hz (zl hb1) (by simpa using f3) (by simp) (sh:=[]) (by simp) hr
theorem sim_append(h:Rel P φ H w){ts:Array TypeId}{ty:TypeId}{cn:Array Bool}{s x:V}{args:Array Value}{sv xv:Value}(a0:args[0]? =some sv)(a1:args[1]? =some xv)
  (hs:VR φ s sv) (hx:VR φ x xv) (hr0:wd P ts.toList H s x=.ok v H'):Sim P φ H w (builtin .append ts ty cn args) v H':=by
 by_cases hno:∀t t2 k,ts.toList=[t,t2]→tyOf P t2≠.int k
 ·exact sim_appendS h a0 a1 hs hx hno hr0
 ·simp only[Classical.not_forall,Classical.not_not]at hno
  obtain⟨t,t2,k,hts,hk⟩:=hno
  obtain rfl:ts= #[t,t2]:=Array.ext' (by rw[hts])
  unfold wd at hr0
  simp only[hk]at hr0
  split at hr0
  ·rename_i h1 h2;cases h1
  ·rename_i h1 h2;cases h1
  ·rename_i k' elem h1 h2
   exact sim_appendZ h a0 a1 hs hx h2 (zFl hk) hr0
  ·cases hr0
end Vam
namespace Vam
open Go
variable {P:Program}{φ:Phi}{H H':CH}{w:World}{v:V}
theorem zBN(h:Rel P φ H w){x:V}{xv:Value}{size n m:Nat}{new:V}(hx:VR φ x xv)(hl:lenOf x=some m)(hle:n≤m)(hr:firstCells H size n x=some new):
  ∃nv:Array Value,(∀w',(Builtin.lenOf xv).run P w'=.ok m w')∧(Builtin.firstCells size n xv).run P w=.ok nv w∧LR φ new nv.toList∧nv.size=n*size:=by
 cases x with
 |str s=>
  cases hx with
  |str b=>
   cases(show some (bytesOf b).length=some m from hl)
   obtain⟨hb1,hr⟩:=zH (show cond (Nat.beq size 1) (some (zFm ((bytesOf b).take n))) none=some new from hr) (by simp)
   obtain rfl:=zl hb1
   cases hr
   have hlen:(bytesOf b).length=b.size:=by unfold bytesOf;rw[List.length_map,Array.length_toList];rfl
   have hsz:b.data.size=b.size:=rfl
   refine⟨(b.extract 0 n).data.map fun c=>.int .u8 c.toNat,fun w'=>by simp[Builtin.lenOf,hlen],?_,?_,?_⟩
   ·simp[Builtin.firstCells]
   ·have:=zFO (φ:=φ) (b.data.toList.take n)
    rw[ByteArray.data_extract]
    simpa[bytesOf,List.map_take,List.take_take]using this
   ·rw[Array.size_map,ByteArray.data_extract,Array.size_extract,Nat.mul_one]
    rw[hlen]at hle
    omega
 |slice b off len cc sz=>
  cases hx with
  |empty _ a=>
   cases(show some 0=some m from hl)
   obtain rfl:n=0:=by omega
   have hr:zX H .over 0 (Nat.mul 0 size)=some new:=hr
   rw[show Nat.mul 0 size=0 from Nat.zero_mul _]at hr
   cases(show some V.nil=some new from hr)
   exact⟨#[],fun w'=>by simp[Builtin.lenOf],run_firstCells_some w size 0 a 0 0 [] (by simp) (fun j v hj=>by simp at hj),.nil,by simp⟩
  |loose _ a c0=>
   cases(show some 0=some m from hl)
   obtain rfl:n=0:=by omega
   have hr:zX H .over 0 (Nat.mul 0 size)=some new:=hr
   rw[show Nat.mul 0 size=0 from Nat.zero_mul _]at hr
   cases(show some V.nil=some new from hr)
   exact⟨#[],fun w'=>by simp[Builtin.lenOf],run_firstCells_some w size 0 a 0 c0 [] (by simp) (fun j v hj=>by simp at hj),.nil,by simp⟩
  |slice _ _ _ _ _ cap k hk hc=>
   cases(show some len=some m from hl)
   obtain⟨vs,g1,g2,g3⟩:=zBK h hk (show zX H b off (Nat.mul n size)=some new from hr)
   refine⟨vs.toArray,fun w'=>by simp[Builtin.lenOf],?_,by simpa using g2,by simpa using g1⟩
   refine run_firstCells_some w size n _ m cap vs g1 (fun j v hj=>?_)
   rw[wE]
   have:=g3 j v hj
   simpa[World.cell?]using this
 |nils=>
  cases hx
  cases(show some 0=some m from hl)
  obtain rfl:n=0:=by omega
  cases(show natC (some .nil) (fun _=>none) 0=some new from hr)
  exact⟨#[],fun w'=>by simp[Builtin.lenOf],by simp[Builtin.firstCells],.nil,by simp⟩
 |_=>cases hl
theorem sim_copy(h:Rel P φ H w){ts:Array TypeId}{ty:TypeId}{cn:Array Bool}{d s:V}{args:Array Value}{dv sv:Value}(a0:args[0]? =some dv)(a1:args[1]? =some sv)
  (hd:VR φ d dv) (hs:VR φ s sv) (hr0:copyT P ts.toList H d s=.ok v H'):Sim P φ H w (builtin .copy ts ty cn args) v H':=by
 unfold copyT at hr0
 split at hr0
 ·cases hr0
 ·rename_i t tl hts
  split at hr0
  ·rename_i elem ht
   obtain⟨g1,g2⟩:=zq ht
   have ht0:ts[0]? =some t:=by
    rw[←Array.getElem?_toList,hts];rfl
   have hsz:(Go.sizeOf elem).run P w=Result.ok (P.cellsOf elem) w:=yI (yV g2).1 w
   obtain⟨m,hm,hr⟩:=zP hr0 R.ok_ne
   rcases wC hr R.ok_ne with ⟨b,off,len,cc,sz,rfl,hr⟩|⟨rfl,hr⟩
   ·cases hd with
    |empty _ a=>
     obtain⟨h1,hr⟩:=zH (show cond (Nat.beq sz (P.cellsOf elem)) _ R.no=.ok v H' from hr) R.ok_ne
     have hr:∃new,firstCells H (P.cellsOf elem) 0 s=some new∧zCm H 0 .over 0 new=.ok v H':=by
      cases m with
      |zero=>
       obtain⟨new,hf,hr⟩:=zP (show opt R.no (zCm H 0 .over 0) (firstCells H (P.cellsOf elem) 0 s)=.ok v H' from hr) R.ok_ne
       exact⟨new,hf,hr⟩
      |succ m=>
       obtain⟨new,hf,hr⟩:=zP (show opt R.no (zCm H 0 .over 0) (firstCells H (P.cellsOf elem) 0 s)=.ok v H' from hr) R.ok_ne
       exact⟨new,hf,hr⟩
     obtain⟨new,hf,hr⟩:=hr
     obtain⟨nv,f1,f2,f3,f4⟩:=zBN h hs hm (Nat.zero_le _) hf
     have hnv:nv.toList=[]:=by
      have:nv.size=0:=by rw[f4,Nat.zero_mul]
      apply List.length_eq_zero_iff.1;simpa using this
     have hnew:new=.nil:=by
      rw[hnv]at f3;cases f3;rfl
     subst hnew
     cases(show R.ok (.int .i64 (.ofNat 0)) H=.ok v H' from hr)
     refine⟨φ,w,.int .i64 (Int.ofNat 0),.inl ?_,h,.refl _ _ _,.int _ _⟩
     have e:(Builtin.copy_ ts ty args).run P w=.ok (.int .i64 (Int.ofNat 0)) w:=by
      unfold Builtin.copy_
      rw[ht0,a0,a1]
      have:Nat.min m 0=0:=Nat.min_eq_right (Nat.zero_le _)
      simp only[Sem.run_bind,run_underlying g1,Result.andThen_ok,f1,hsz,this,f2,hnv,storeCells,Sem.run_pure]
      rfl
     simp[builtin,e]
    |loose _ a c0=>
     obtain⟨h1,hr⟩:=zH (show cond (Nat.beq sz (P.cellsOf elem)) _ R.no=.ok v H' from hr) R.ok_ne
     have hr:∃new,firstCells H (P.cellsOf elem) 0 s=some new∧zCm H 0 .over 0 new=.ok v H':=by
      cases m with
      |zero=>
       obtain⟨new,hf,hr⟩:=zP (show opt R.no (zCm H 0 .over 0) (firstCells H (P.cellsOf elem) 0 s)=.ok v H' from hr) R.ok_ne
       exact⟨new,hf,hr⟩
      |succ m=>
       obtain⟨new,hf,hr⟩:=zP (show opt R.no (zCm H 0 .over 0) (firstCells H (P.cellsOf elem) 0 s)=.ok v H' from hr) R.ok_ne
       exact⟨new,hf,hr⟩
     obtain⟨new,hf,hr⟩:=hr
     obtain⟨nv,f1,f2,f3,f4⟩:=zBN h hs hm (Nat.zero_le _) hf
     have hnv:nv.toList=[]:=by
      have:nv.size=0:=by rw[f4,Nat.zero_mul]
      apply List.length_eq_zero_iff.1;simpa using this
     have hnew:new=.nil:=by
      rw[hnv]at f3;cases f3;rfl
     subst hnew
     cases(show R.ok (.int .i64 (.ofNat 0)) H=.ok v H' from hr)
     refine⟨φ,w,.int .i64 (Int.ofNat 0),.inl ?_,h,.refl _ _ _,.int _ _⟩
     have e:(Builtin.copy_ ts ty args).run P w=.ok (.int .i64 (Int.ofNat 0)) w:=by
      unfold Builtin.copy_
      rw[ht0,a0,a1]
      have:Nat.min m 0=0:=Nat.min_eq_right (Nat.zero_le _)
      simp only[Sem.run_bind,run_underlying g1,Result.andThen_ok,f1,hsz,this,f2,hnv,storeCells,Sem.run_pure]
      rfl
     simp[builtin,e]
    |slice _ _ _ _ _ cap k hk hcap=>
     obtain⟨h1,hr⟩:=zH (show cond (Nat.beq sz (P.cellsOf elem)) _ R.no=.ok v H' from hr) R.ok_ne
     obtain⟨n,hn,hnm,new,hf,hr⟩:∃n,n=Nat.min m len∧n≤m∧∃new,firstCells H (P.cellsOf elem) n s=some new∧zCm H n b off new=.ok v H':=by
      cases hb:Nat.ble m len with
      |true=>
       rw[hb]at hr
       obtain⟨new,hf,hr⟩:=zP (show opt R.no (zCm H m b off) (firstCells H (P.cellsOf elem) m s)=.ok v H' from hr) R.ok_ne
       exact⟨m,(Nat.min_eq_left (Nat.le_of_ble_eq_true hb)).symm,Nat.le_refl _,new,hf,hr⟩
      |false=>
       rw[hb]at hr
       obtain⟨new,hf,hr⟩:=zP (show opt R.no (zCm H len b off) (firstCells H (P.cellsOf elem) len s)=.ok v H' from hr) R.ok_ne
       have hlt:len≤m:=by
        rcases Nat.le_total m len with h2|h2
        ·rw[Nat.ble_eq_true_of_le h2]at hb;cases hb
        ·exact h2
       exact⟨len,(Nat.min_eq_right hlt).symm,hlt,new,hf,hr⟩
     obtain⟨nv,f1,f2,f3,f4⟩:=zBN h hs hm hnm hf
     have run:∀{w'},(storeCells ⟨k.r,k.o+off,none⟩ nv.toList).run P w=.ok () w'→(builtin .copy ts ty cn args).run P w=.ok (.value (.int .i64 (Int.ofNat n))) w':=by
      intro w' hst
      have e:(Builtin.copy_ ts ty args).run P w=.ok (.int .i64 (Int.ofNat n)) w':=by
       unfold Builtin.copy_
       rw[ht0,a0,a1]
       simp only[Sem.run_bind,run_underlying g1,Result.andThen_ok,f1,hsz,←hn,f2,hst,Sem.run_pure]
       rfl
      simp[builtin,e]
     unfold zCm at hr
     rcases za hr R.ok_ne with ⟨rfl,hr⟩|⟨y,l,rfl,hr⟩
     ·cases hr
      have:nv.toList=[]:=LR.inv_nil f3
      exact⟨φ,w,_,.inl (run (by rw[this];simp[storeCells])),h,.refl _ _ _,.int _ _⟩
     ·obtain⟨H₁,w1,w2⟩:=zP hr R.ok_ne
      cases w2
      obtain⟨arr,el,q1,q2,q3,q4,q5⟩:=Rel.write h hk f3 w1
      refine⟨φ,_,_,.inl (run ?_),q4,q5,.int _ _⟩
      exact wq ⟨k.r,k.o+off,none⟩ k.r (k.o+off) el nv.toList 0 w arr (fun j=>by simp[Addr.add]) q1 q3 (by simpa using q2)
   ·cases hd
    obtain⟨new,hf,hr⟩:=zP hr R.ok_ne
    cases hr
    obtain⟨nv,f1,f2,f3,f4⟩:=zBN h hs hm (Nat.zero_le _) hf
    refine⟨φ,w,.int .i64 (Int.ofNat 0),.inl ?_,h,.refl _ _ _,.int _ _⟩
    have e:(Builtin.copy_ ts ty args).run P w=.ok (.int .i64 (Int.ofNat 0)) w:=by
     unfold Builtin.copy_
     rw[ht0,a0,a1]
     have:Nat.min m 0=0:=Nat.min_eq_right (Nat.zero_le _)
     simp only[Sem.run_bind,run_underlying g1,Result.andThen_ok,f1,hsz,this,f2,Sem.run_pure]
     rfl
    simp[builtin,e]
  ·cases hr0
theorem sim_clear(h:Rel P φ H w){ts:Array TypeId}{ty:TypeId}{cn:Array Bool}{x:V}{args:Array Value}{xv:Value}(a0:args[0]? =some xv)
  (hx:VR φ x xv) (hr0:clearT P ts.toList H x=.ok v H'):Sim P φ H w (builtin .clear ts ty cn args) v H':=by
 unfold clearT at hr0
 split at hr0
 ·cases hr0
 ·rename_i t tl hts
  split at hr0
  ·rename_i elem ht
   obtain⟨g1,g2⟩:=zq ht
   have ht0:ts[0]? =some t:=by
    rw[←Array.getElem?_toList,hts];rfl
   have unit:VR φ (.tup .nil) (.tuple #[]):=.tup .nil #[] .nil
   rcases wC hr0 R.ok_ne with ⟨b,off,len,cc,sz,rfl,hr⟩|⟨rfl,hr⟩
   ·cases hx with
    |empty _ a=>
     cases(show R.ok (.tup .nil) H=.ok v H' from hr)
     refine⟨φ,w,.tuple #[],.inl ?_,h,.refl _ _ _,unit⟩
     have e:(Builtin.clear_ ts ty args).run P w=.ok (.tuple #[]) w:=by
      unfold Builtin.clear_
      rw[ht0,a0]
      simp only[Sem.run_bind,run_underlying g1,Result.andThen_ok]
      rfl
     simp[builtin,e]
    |loose _ a c0=>
     cases(show R.ok (.tup .nil) H=.ok v H' from hr)
     refine⟨φ,w,.tuple #[],.inl ?_,h,.refl _ _ _,unit⟩
     have e:(Builtin.clear_ ts ty args).run P w=.ok (.tuple #[]) w:=by
      unfold Builtin.clear_
      rw[ht0,a0]
      simp only[Sem.run_bind,run_underlying g1,Result.andThen_ok]
      rfl
     simp[builtin,e]
    |slice _ _ _ _ _ cap k hk hcap=>
     cases len with
     |zero=>
      cases(show R.ok (.tup .nil) H=.ok v H' from hr)
      refine⟨φ,w,.tuple #[],.inl ?_,h,.refl _ _ _,unit⟩
      have e:(Builtin.clear_ ts ty args).run P w=.ok (.tuple #[]) w:=by
       unfold Builtin.clear_
       rw[ht0,a0]
       simp only[Sem.run_bind,run_underlying g1,Result.andThen_ok]
       rfl
      simp[builtin,e]
     |succ n=>
      obtain⟨h1,hr⟩:=zH (show cond (Nat.beq sz (P.cellsOf elem)) (opt R.no (clearW H (P.cellsOf elem) (n+1) b off) (yf P elem)) R.no=.ok v H' from hr) R.ok_ne
      obtain⟨z,hz,hr⟩:=zP hr R.ok_ne
      obtain⟨h2,hr⟩:=zH (show cond (Nat.beq (lenV z 0) (P.cellsOf elem)) _ R.no=.ok v H' from hr) R.ok_ne
      obtain⟨zv,z1,z2⟩:=zBa hz w
      have hlen:zv.cells.size=P.cellsOf elem:=by
       have:=zl h2
       rw[zAR,LR.len (z2 φ)]at this;simpa using this
      obtain⟨H₁,w1,hr⟩:∃H₁,zk H b off (repL z (n+1))=some H₁∧R.ok (.tup .nil) H₁=.ok v H'∧0<P.cellsOf elem:=by
       cases hc:P.cellsOf elem with
       |zero=>rw[hc]at hr;cases hr
       |succ c=>
        rw[hc]at hr
        obtain⟨H₁,w1,w2⟩:=zP (show opt R.no (fun H'=>R.ok (.tup .nil) H') (zk H b off (repL z (n+1)))=.ok v H' from hr) R.ok_ne
        exact⟨H₁,w1,w2,Nat.succ_pos c⟩
      obtain⟨hr,hpos⟩:=hr
      cases hr
      have hcells:(Builtin.zeroCells zv.cells (n+1)).toList=(List.replicate (n+1) zv.cells.toList).flatten:=zAg zv.cells (n+1) (.inl (by rw[hlen];exact hpos))
      obtain⟨arr,el,q1,q2,q3,q4,q5⟩:=Rel.write h hk (LR.rep (z2 φ) (n+1)) w1
      refine⟨φ,_,.tuple #[],.inl ?_,q4,q5,unit⟩
      have hst:=wq (P:=P) ⟨k.r,k.o+off,none⟩ k.r (k.o+off) el (List.replicate (n+1) zv.cells.toList).flatten 0 w arr (fun j=>by simp[Addr.add]) q1 q3 (by simpa using q2)
      rw[←hcells]at hst
      have e:(Builtin.clear_ ts ty args).run P w=.ok (.tuple #[]) {w with heap:=w.heap.setIfInBounds k.r (.cells (wP arr (k.o+off) (List.replicate (n+1) zv.cells.toList).flatten) el (0,0))}:=by
       unfold Builtin.clear_
       rw[ht0,a0]
       simp only[Sem.run_bind,run_underlying g1,Result.andThen_ok,z1]
       rw[hst]
       simp[hcells]
      simp[builtin,e]
   ·cases hx
    cases hr
    refine⟨φ,w,.tuple #[],.inl ?_,h,.refl _ _ _,unit⟩
    have e:(Builtin.clear_ ts ty args).run P w=.ok (.tuple #[]) w:=by
     unfold Builtin.clear_
     rw[ht0,a0]
     simp only[Sem.run_bind,run_underlying g1,Result.andThen_ok]
     rfl
    simp[builtin,e]
  ·cases hr0
end Vam
namespace Vam
open Go
variable {P:Program}{φ:Phi}{H H':CH}{w:World}{v:V}
theorem zGc(a:Act)(ps:Array (Nat×Operand)):(ps.map fun(i,x)=>(i,a.eval x))=(ps.toList.map fun p=>(p.1,a.eval p.2)).toArray:=by
 apply Array.ext';simp
theorem sim_exec{E:Ev}(h:Rel P φ H w){tm:TT}{a:Act}(htm:TmR φ tm a.tmps){o:Oper}(hok:wF a.tmps.size o=true)(hnc:∀c,o.op≠.call c)
  (hr:evOp P E tm H o.op=.ok v H'):Sim P φ H w (execOp a.eval o) v H':=by
 obtain⟨_,hall⟩:=Bool.and_eq_true_iff.1 hok
 have hop:∀x∈o.op.operands,VR φ (zG tm x) (a.eval x):=fun x hx=>zAX htm (List.all_eq_true.1 hall x (by simpa using hx))
 have hopt:∀x:Option Operand,(∀y,x=some y→y∈o.op.operands)→OptR φ (zd tm x) (x.map a.eval):=by
  intro x hx
  cases x with
  |none=>exact .none
  |some y=>exact .some _ _ (hop y (hx y rfl))
 cases ho:o.op with
 |move x|assign x=>
  rw[ho]at hr
  cases(show R.ok (zG tm x) H=.ok v H' from hr)
  exact⟨φ,w,_,.inl (by simp[execOp,ho]),h,.refl _ _ _,hop x (by simp[ho,Op.operands])⟩
 |pick c x y=>
  rw[ho]at hr
  have:=sim_pick h (hop c (by simp[ho,Op.operands])) (hop x (by simp[ho,Op.operands])) (hop y (by simp[ho,Op.operands])) hr
  simpa only[execOp,ho]using this
 |alloc e=>
  rw[ho]at hr
  have:=sim_alloc h hr
  simpa only[execOp,ho]using this
 |box e x=>
  rw[ho]at hr
  have:=sim_box h (hop x (by simp[ho,Op.operands])) hr
  simpa only[execOp,ho]using this
 |build t ps=>
  rw[ho]at hr
  have hp:PartsR φ (zW tm ps.toList) (ps.toList.map fun p=>(p.1,a.eval p.2)):=zCY htm (by
   rw[ho]at hall;simpa[Op.operands,List.all_eq_true,Function.comp_def]using hall)
  have:=sim_build h hp hr
  simpa only[execOp,ho,zGc]using this
 |buildSlice t n ps=>
  rw[ho]at hr
  have hp:PartsR φ (zW tm ps.toList) (ps.toList.map fun p=>(p.1,a.eval p.2)):=zCY htm (by
   rw[ho]at hall;simpa[Op.operands,List.all_eq_true,Function.comp_def]using hall)
  have:=zHJ h hp hr
  simpa only[execOp,ho,zGc]using this
 |insert t m k x|mapUpdate t m k x=>
  rw[ho]at hr
  have:=sim_mapUpdate h (hop m (by simp[ho,Op.operands])) (hop k (by simp[ho,Op.operands])) (hop x (by simp[ho,Op.operands])) hr
  simpa only[execOp,ho]using this
 |load t x=>
  rw[ho]at hr
  have:=sim_load h (hop x (by simp[ho,Op.operands])) hr
  simpa only[execOp,ho]using this
 |store t x y=>
  rw[ho]at hr
  have:=sim_store h (hop x (by simp[ho,Op.operands])) (hop y (by simp[ho,Op.operands])) hr
  simpa only[execOp,ho]using this
 |nilCheck x=>exact sim_nilCheck h ho (hop x (by simp[ho,Op.operands])) (by rw[ho]at hr;exact hr)
 |binOp op t x y u=>
  rw[ho]at hr
  have:=sim_binOp (xo:=x) (yo:=y) h (hop x (by simp[ho,Op.operands])) (hop y (by simp[ho,Op.operands])) hr
  simpa only[execOp,ho]using this
 |unOp op t x=>
  rw[ho]at hr
  have:=sim_unOp h (hop x (by simp[ho,Op.operands])) hr
  simpa only[execOp,ho]using this
 |convert s d x=>
  rw[ho]at hr
  have:=sim_convert h (hop x (by simp[ho,Op.operands])) hr
  simpa only[execOp,ho]using this
 |sliceToArrayPointer d x=>
  rw[ho]at hr
  have:=sim_arrPtr h (hop x (by simp[ho,Op.operands])) hr
  simpa only[execOp,ho]using this
 |makeFunc fn xs ys=>
  rw[ho]at hr hall
  have h1:xs.toList.all (okO a.tmps.size)=true:=by
   rw[List.all_eq_true];intro x hx;exact List.all_eq_true.1 hall x (by simp only[Op.operands,Array.toList_append,List.mem_append];exact .inl hx)
  have h2:ys.toList.all (okO a.tmps.size)=true:=by
   rw[List.all_eq_true];intro x hx;exact List.all_eq_true.1 hall x (by simp only[Op.operands,Array.toList_append,List.mem_append];exact .inr hx)
  have:=sim_makeFunc h htm (xs:=xs) (ys:=ys) h1 h2 hr
  simpa only[execOp,ho]using this
 |makeMap t r=>
  rw[ho]at hr
  cases ht:tyOf P t with
  |map k e=>
   have hr:Ty.rec (motive:=fun _=>R) (fun _=>.no) (fun _ _=>.no) (fun _=>.no) (fun _ _=>zCS (zd tm r) H) .no (fun _=>.no) .no .no .no .no (tyOf P t)=.ok v H':=hr
   rw[ht]at hr
   have:=sim_makeMap h (hopt r (fun y hy=>by subst hy;simp[ho,Op.operands])) ⟨k,e,(zDP ht).1⟩ hr
   simpa only[execOp,ho]using this
  |_=>
   have hr:Ty.rec (motive:=fun _=>R) (fun _=>.no) (fun _ _=>.no) (fun _=>.no) (fun _ _=>zCS (zd tm r) H) .no (fun _=>.no) .no .no .no .no (tyOf P t)=.ok v H':=hr
   rw[ht]at hr;cases hr
 |makeSlice t l c=>
  rw[ho]at hr
  have:=sim_makeSlice h (hop l (by simp[ho,Op.operands])) (hop c (by simp[ho,Op.operands])) hr
  simpa only[execOp,ho]using this
 |slice t x lo hi mx=>
  rw[ho]at hr
  have:=sim_slice h (hop x (by simp[ho,Op.operands])) (hopt lo (fun y hy=>by subst hy;simp[ho,Op.operands])) (hopt hi (fun y hy=>by subst hy;simp[ho,Op.operands])) (hopt mx (fun y hy=>by subst hy;simp[ho,Op.operands])) hr
  simpa only[execOp,ho]using this
 |fieldAddr t x f=>
  rw[ho]at hr
  have:=sim_fieldAddr h (hop x (by simp[ho,Op.operands])) hr
  simpa only[execOp,ho]using this
 |field t x f=>
  rw[ho]at hr
  have:=sim_field h (hop x (by simp[ho,Op.operands])) hr
  simpa only[execOp,ho]using this
 |indexAddr t x ix=>
  rw[ho]at hr
  have:=sim_indexAddr h (hop x (by simp[ho,Op.operands])) (hop ix (by simp[ho,Op.operands])) hr
  simpa only[execOp,ho]using this
 |index t x ix=>
  rw[ho]at hr
  have:=sim_index h (hop x (by simp[ho,Op.operands])) (hop ix (by simp[ho,Op.operands])) hr
  simpa only[execOp,ho]using this
 |lookup t x ix ok=>
  rw[ho]at hr
  have:=sim_lookup h (hop x (by simp[ho,Op.operands])) (hop ix (by simp[ho,Op.operands])) hr
  simpa only[execOp,ho]using this
 |extract t i=>
  rw[ho]at hr
  have:=sim_extract h (hop t (by simp[ho,Op.operands])) hr
  simpa only[execOp,ho]using this
 |call c=>exact absurd ho (hnc c)
 |_=>rw[ho]at hr;cases hr
end Vam
