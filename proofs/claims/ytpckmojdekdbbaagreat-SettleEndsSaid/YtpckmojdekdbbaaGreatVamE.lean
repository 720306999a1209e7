import Derived.Test.YtpckmojdekdbbaaGreatVamD
import Derived.RangeFuncLeaves
import Derived.OrdersIn
import Derived.LoopNIn
import Derived.Scope
set_option linter.unusedVariables false
set_option linter.unusedSimpArgs false
namespace Vam
open Go
variable {P:Program}{φ:Phi}{H H':CH}{w:World}{v:V}{E:Ev}
def exOf:Ex→Exit
 | .normal=>.normal
 | .exit i=>.exit i
 | .goto l=>.goto l
 | .ret=>.ret
inductive DfR(φ:Phi):List Id→List Deferred→Prop where
 |nil:DfR φ [] []
 |cons (b:Id) (k:Loc) (ds:List Id) (l:List Deferred):φ b=some k→DfR φ ds l→DfR φ (b::ds) ({target:=.collected k.r,args:= #[]}::l)
theorem DfR.mono{φ ψ:Phi}(hle:φ.le ψ){ds:List Id}{l:List Deferred}(h:DfR φ ds l):DfR ψ ds l:=by
 induction h with
 |nil=>exact .nil
 |cons b k ds l h1 _ ih=>exact .cons b k ds l (hle _ _ h1) ih
def RoR(φ:Phi)(ro:Option Id)(r:Option Nat):Prop:=match ro with
 |none=>r=none
 |some l=>∃k,φ l=some k∧r=some k.r
theorem RoR.mono{φ ψ:Phi}(hle:φ.le ψ){ro:Option Id}{r:Option Nat}(h:RoR φ ro r):RoR ψ ro r:=by
 cases ro with
 |none=>exact h
 |some l=>obtain⟨k,h1,h2⟩:=h;exact⟨k,hle _ _ h1,h2⟩
abbrev wU(r:Option Nat):Fence:={Fence.wide with round:=r}
def After(P:Program)(φ:Phi)(H:CH)(w:World)(ex:Ex)(tm':TT)(ds':List Id)(H':CH)(n:Nat):Exit→Act→World→Prop:=fun e a' w'=>
 e=exOf ex∧∃φ',Rel P φ' H' w'∧Ext φ H w φ' H' w'∧TmR φ' tm' a'.tmps∧a'.tmps.size=n∧DfR φ' ds' a'.defers
def Back(P:Program)(φ:Phi)(H:CH)(w:World)(v:V)(H':CH):Ending→World→Prop:=fun e w'=>
 ∃x φ',e=.returned x∧Rel P φ' H' w'∧Ext φ H w φ' H' w'∧VR φ' v x
def Texted (P : Program) (f : FuncId) : Prop := ∃ fn c, P.funcs[f]? = some fn ∧ fn.body = some c ∧ (fn.name == "runtime.NumGoroutine") = false
def yi(P:Program)(E:Ev):Prop:=∀{f:FuncId} {args:V} {vs:List Value} {φ:Phi} {H:CH} {w:World} {v:V} {H':CH},Rel P φ H w→LR φ args vs→E.call f args H=.ok v H'→
 Texted P f∧CallsIn Fence.wide 0 P f vs.toArray w (Back P φ H w v H')
def zo(P:Program)(E:Ev):Prop:=∀{c:Code} {tm:TT} {ds:List Id} {ro:Option Id} {fn:FuncId} {H:CH} {ex:Ex} {tm':TT} {ds':List Id} {H':CH} {φ:Phi} {w:World} {a:Act} {r:Option Nat},
 Rel P φ H w→TmR φ tm a.tmps→DfR φ ds a.defers→RoR φ ro r→yh P a.tmps.size c=true→E.code c tm ds ro fn H=.ok ex tm' ds' H'→
 c.wpIn (wU r) 0 P (After P φ H w ex tm' ds' H' a.tmps.size) a w
theorem callsAt{f:FuncId}{args:Array Value}{R:Ending→World→Prop}{n m:Nat}(r:Option Nat)(h:CallsIn Fence.wide n P f args w R):CallsIn (wU r) m P f args w R:=
 ⟨trivial,fun cs _=>h.2 cs (room_wide _)⟩
theorem sim_builtin(h:Rel P φ H w){b:Builtin}{ts:Array TypeId}{ty:TypeId}{cn:Array Bool}{xs:V}{vs:List Value}(hl:LR φ xs vs)(hr:wZ P b ts.toList xs H=.ok v H'):
  Sim P φ H w (builtin b ts ty cn vs.toArray) v H':=by
 unfold wZ at hr
 cases b with
 |len=>
  simp only at hr
  split at hr
  ·rename_i t hts
   obtain rfl:ts= #[t]:=Array.ext' (by rw[hts])
   rcases za hr R.ok_ne with ⟨_,hr1⟩|⟨x,l,e1,hr1⟩
   ·cases hr1
   ·subst e1
    obtain⟨xv,vs',rfl,h1,h2⟩:=LR.inv_cons hl
    rcases za hr1 R.ok_ne with ⟨e2,hr2⟩|⟨_,_,_,hr2⟩
    ·subst e2
     obtain rfl:=LR.inv_nil h2
     exact sim_len h h1 hr2
    ·cases hr2
  ·cases hr
 |cap=>
  simp only at hr
  split at hr
  ·rename_i t hts
   obtain rfl:ts= #[t]:=Array.ext' (by rw[hts])
   rcases za hr R.ok_ne with ⟨_,hr1⟩|⟨x,l,e1,hr1⟩
   ·cases hr1
   ·subst e1
    obtain⟨xv,vs',rfl,h1,h2⟩:=LR.inv_cons hl
    rcases za hr1 R.ok_ne with ⟨e2,hr2⟩|⟨_,_,_,hr2⟩
    ·subst e2
     obtain rfl:=LR.inv_nil h2
     exact sim_cap h h1 hr2
    ·cases hr2
  ·cases hr
 |append=>
  rcases za hr R.ok_ne with ⟨_,hr1⟩|⟨x,l,e1,hr1⟩
  ·cases hr1
  ·subst e1
   obtain⟨xv,vs',rfl,h1,h2⟩:=LR.inv_cons hl
   rcases za hr1 R.ok_ne with ⟨_,hr2⟩|⟨y,l',e2,hr2⟩
   ·cases hr2
   ·subst e2
    obtain⟨yv,vs'',rfl,h3,h4⟩:=LR.inv_cons h2
    exact sim_append h (sv:=xv) (xv:=yv) (by simp) (by simp) h1 h3 hr2
 |clear=>
  rcases za hr R.ok_ne with ⟨_,hr1⟩|⟨x,l,e1,hr1⟩
  ·cases hr1
  ·subst e1
   obtain⟨xv,vs',rfl,h1,h2⟩:=LR.inv_cons hl
   rcases za hr1 R.ok_ne with ⟨e2,hr2⟩|⟨_,_,_,hr2⟩
   ·exact sim_clear h (xv:=xv) (by simp) h1 hr2
   ·cases hr2
 |copy=>
  rcases za hr R.ok_ne with ⟨_,hr1⟩|⟨x,l,e1,hr1⟩
  ·cases hr1
  ·subst e1
   obtain⟨xv,vs',rfl,h1,h2⟩:=LR.inv_cons hl
   rcases za hr1 R.ok_ne with ⟨_,hr2⟩|⟨y,l',e2,hr2⟩
   ·cases hr2
   ·subst e2
    obtain⟨yv,vs'',rfl,h3,h4⟩:=LR.inv_cons h2
    exact sim_copy h (dv:=xv) (sv:=yv) (by simp) (by simp) h1 h3 hr2
 |min=>
  rcases za hr R.ok_ne with ⟨_,hr1⟩|⟨x,l,e1,hr1⟩
  ·cases hr1
  ·subst e1
   exact sim_min h hl hr1
 |max=>
  rcases za hr R.ok_ne with ⟨_,hr1⟩|⟨x,l,e1,hr1⟩
  ·cases hr1
  ·subst e1
   exact sim_max h hl hr1
 |_=>cases hr
theorem wp_of_sim{o:Oper}{a:Act}{s:Sem Next}{next:Act→World→Prop}{Q:Exit→Act→World→Prop}{r:Option Nat}(hs:Sim P φ H w s v H')(ho:(o.semAt r a.eval).run P w=s.run P w)
  (hnext:∀φ' w' x,Rel P φ' H' w'→Ext φ H w φ' H' w'→VR φ' v x→next (a.put o.dst x) w'):o.wpIn (wU r) 0 P a w next Q:=by
 obtain⟨φ',w',x,hrun,h1,h2,h3⟩:=hs
 refine⟨fun _ _=>trivial,?_⟩
 show o.uponIn (wU r) 0 P a next Q ((o.semAt r a.eval).run P w)
 rw[ho]
 rcases hrun with hrun|⟨hrun,rfl⟩
 ·rw[hrun];exact hnext φ' w' x h1 h2 h3
 ·rw[hrun];exact hnext φ' w' _ h1 h2 h3
theorem zGJ{o:Oper}{a:Act}{next:Act→World→Prop}{Q:Exit→Act→World→Prop}{r:Option Nat}{f:FuncId}{args:Array Value}
  (ho:(o.semAt r a.eval).run P w=.ok (.enter f args) w) (hc:CallsIn Fence.wide 0 P f args w (Back P φ H w v H'))
  (hnext:∀φ' w' x,Rel P φ' H' w'→Ext φ H w φ' H' w'→VR φ' v x→next (a.put o.dst x) w'):o.wpIn (wU r) 0 P a w next Q:=by
 refine⟨fun _ _=>trivial,?_⟩
 show o.uponIn (wU r) 0 P a next Q ((o.semAt r a.eval).run P w)
 rw[ho]
 refine⟨fun h=>(by cases h),callsAt r (hc.mono ?_)⟩
 rintro e w' ⟨x,φ',rfl,h1,h2,h3⟩
 exact hnext φ' w' x h1 h2 h3
theorem wp_of_round{o:Oper}{a:Act}{next:Act→World→Prop}{Q:Exit→Act→World→Prop}{r:Option Nat}{l:Nat}{f:FuncId}{tmps:Array Value}{x y:Code}
  (ho:(o.semAt r a.eval).run P w=.ok (.round l f tmps x y) w) (hc:RoundIn Fence.wide 0 P l f tmps x y w (Back P φ H w v H'))
  (hnext:∀φ' w' x,Rel P φ' H' w'→Ext φ H w φ' H' w'→VR φ' v x→next (a.put o.dst x) w'):o.wpIn (wU r) 0 P a w next Q:=by
 refine⟨fun _ _=>trivial,?_⟩
 show o.uponIn (wU r) 0 P a next Q ((o.semAt r a.eval).run P w)
 rw[ho]
 refine⟨fun h=>(by cases h),trivial,fun c cs hroom=>?_⟩
 obtain⟨e,w',⟨x,φ',rfl,h1,h2,h3⟩,h4⟩:=hc.2 c cs (room_wide _)
 exact⟨.returned x,w',hnext φ' w' x h1 h2 h3,h4⟩
theorem zCw{f:FuncId}{args:Array Value}(h:Texted P f):(callFunc f args).run P w=.ok (.enter f args) w:=by
 obtain⟨fn,c,h1,h2,h3⟩:=h
 simp[callFunc,h1,h2]
 exact beq_eq_false_iff_ne.1 h3
theorem onLoop_ok{α:Type}{no r:α}{f:LoopState→Option Code→FuncId→TT→List Nat→Code→Code→Id→α}{b:Option Blk}(h:onLoop no f b=r)(hr:r≠no):
  ∃s pe fn tm ps x y d,b=some (.loop s pe fn tm ps x y d)∧f s pe fn tm ps x y d=r:=by
 cases b with
 |none=>exact absurd h.symm hr
 |some z=>cases z<;>first|exact⟨_,_,_,_,_,_,_,_,rfl,h⟩|exact absurd h.symm hr
theorem zAk(h:Rel P φ H w){l:Id}{k:Loc}(hl:φ l=some k){s:LoopState}{pe:Option Code}{fn:FuncId}{tm:TT}{ps:List Nat}{x y:Code}{d:Id}
  (hg:H.get l=some (.loop s pe fn tm ps x y d)):∃(tmps:Array Value) (kd:Loc) (fn':FuncId),φ d=some kd∧
   w.heap[k.r]? =some (.loop {state:=s,pending:=pe,fn:=fn',tmps,params:=ps.toArray,assign:=x,body:=y,defers:=kd.r})∧
   (Instr.getLoop k.r).run P w=.ok {state:=s,pending:=pe,fn:=fn',tmps,params:=ps.toArray,assign:=x,body:=y,defers:=kd.r} w∧TmR φ tm tmps∧
   yh P tmps.size x=true∧yh P tmps.size y=true∧(∀t∈ps,t<tmps.size)∧(∀c,pe=some c→∀n,yh P n c=true):=by
 obtain⟨z,h1,h2⟩:=h.blk l k hl
 rw[hg]at h1;cases h1
 obtain⟨tmps,kd,fn',h3,h4,h5⟩:=h2
 have hgo:(getObj k.r).run P w=.ok (.loop {state:=s,pending:=pe,fn:=fn',tmps,params:=ps.toArray,assign:=x,body:=y,defers:=kd.r}) w:=by
  simp[getObj,Sem.run,h4]
 exact⟨tmps,kd,fn',h3,h4,by simp[Instr.getLoop,hgo],h5⟩
theorem setParams_nil(vs:V)(tm:TT):zBS [] vs tm=zu none (some tm) (fun _ _=>none) vs:=rfl
theorem zHK(p:Nat)(ps:List Nat)(vs:V)(tm:TT):zBS (p::ps) vs tm=zu none none (fun v vs=>zBS ps vs (TT.set v tm p)) vs:=rfl
theorem setParams_rel:∀{ps:List Nat} {args:V} {vs:List Value} {tm tm':TT} {tmps:Array Value},LR φ args vs→TmR φ tm tmps→(∀t∈ps,t<tmps.size)→zBS ps args tm=some tm'→
  ps.length=vs.length∧TmR φ tm' ((ps.zip vs).foldl (fun tmps (t,a)=>tmps.setIfInBounds t a) tmps)∧((ps.zip vs).foldl (fun tmps (t,a)=>tmps.setIfInBounds t a) tmps).size=tmps.size:=by
 intro ps
 induction ps with
 |nil=>
  intro args vs tm tm' tmps ha ht hp h
  rw[setParams_nil]at h
  rcases za (no:=none) h (by simp)with ⟨rfl,h1⟩|⟨_,_,_,h1⟩
  ·cases h1
   obtain rfl:=LR.inv_nil ha
   exact⟨rfl,ht,rfl⟩
  ·cases h1
 |cons p ps ih=>
  intro args vs tm tm' tmps ha ht hp h
  rw[zHK]at h
  rcases za (no:=none) h (by simp)with ⟨_,h1⟩|⟨x,l,rfl,h1⟩
  ·cases h1
  ·obtain⟨xv,vs',rfl,h2,h3⟩:=LR.inv_cons ha
   obtain⟨q1,q2,q3⟩:=ih h3 (ht.set (hp p (by simp)) h2) (fun t htt=>by rw[Array.size_setIfInBounds];exact hp t (by simp[htt])) h1
   refine⟨by simp[q1],by simpa using q2,by simpa using q3⟩
end Vam
namespace Vam
open Go
variable {P:Program}{φ:Phi}{H H':CH}{w:World}{v:V}{E:Ev}
theorem zDl(h:Rel P φ H w){l:Id}{k:Loc}(hl:φ l=some k){s s':LoopState}{pe pe':Option Code}{fn:FuncId}{tm:TT}{ps:List Nat}{x y:Code}{d:Id}
  (hg:H.get l=some (.loop s pe fn tm ps x y d)) (hs:H.set l (.loop s' pe' fn tm ps x y d)=some H') (hpe:∀c,pe'=some c→∀n,yh P n c=true):
  ∃(r:Loop) (w':World),(Instr.getLoop k.r).run P w=.ok r w∧r.state=s∧r.pending=pe∧(setObj k.r (.loop {r with state:=s',pending:=pe'})).run P w=.ok () w'∧
   Rel P φ H' w'∧Ext φ H w φ H' w':=by
 obtain⟨tmps,kd,fn',h1,h2,h3,h4,h5,h6,h7,h8⟩:=zAk h hl hg
 obtain⟨q1,q2⟩:=Rel.setObj (y:=.loop s' pe' fn tm ps x y d) (o:=.loop {state:=s',pending:=pe',fn:=fn',tmps,params:=ps.toArray,assign:=x,body:=y,defers:=kd.r}) h hl hg trivial trivial hs
  ⟨tmps,kd,fn',h1,rfl,h4,h5,h6,h7,hpe⟩
 exact⟨_,_,h3,rfl,rfl,zDQ h2 (by simp),q1,q2⟩
theorem zHS(h:Rel P φ H w){l:Id}{k:Loc}(hl:φ l=some k){pe:Option Code}{fn:FuncId}{tm:TT}{ps:List Nat}{x y:Code}{d:Id}
  (hg:H.get l=some (.loop .ready pe fn tm ps x y d)) (hs:H.set l (.loop .busy pe fn tm ps x y d)=some H'):
  ∃w',(Instr.beginRound k.r).run P w=.ok () w'∧Rel P φ H' w'∧Ext φ H w φ H' w':=by
 obtain⟨r,w',h1,h2,h3,h4,h5,h6⟩:=zDl h hl hg hs (zAk h hl hg).choose_spec.choose_spec.choose_spec.2.2.2.2.2.2.2
 refine⟨w',?_,h5,h6⟩
 have e:({r with state:=.busy,pending:=pe}:Loop)={r with state:=.busy}:=by rw[←h3]
 rw[e]at h4
 simp[Instr.beginRound,h1,h4,h2]
theorem zBj(h:Rel P φ H w){l:Id}{k:Loc}(hl:φ l=some k){s:LoopState}{pe:Option Code}{fn:FuncId}{tm:TT}{ps:List Nat}{x y:Code}{d:Id}{j:Option Code}
  (hg:H.get l=some (.loop s pe fn tm ps x y d)) (hs:H.set l (.loop (if j.isNone then .ready else .done) j fn tm ps x y d)=some H') (hj:∀c,j=some c→∀n,yh P n c=true):
  ∃w',(Instr.endRound k.r j).run P w=.ok (.bool j.isNone) w'∧Rel P φ H' w'∧Ext φ H w φ H' w':=by
 obtain⟨r,w',h1,h2,h3,h4,h5,h6⟩:=zDl h hl hg hs hj
 refine⟨w',?_,h5,h6⟩
 simp only[Instr.endRound,Sem.run_bind,h1,Result.andThen_ok]
 rw[h4];rfl
theorem zGz(h:Rel P φ H w){l:Id}{k:Loc}(hl:φ l=some k){s:LoopState}{pe:Option Code}{fn:FuncId}{tm:TT}{ps:List Nat}{x y:Code}{d:Id}(hb:s≠.busy)
  (hg:H.get l=some (.loop s pe fn tm ps x y d)) (hs:H.set l (.loop .exhausted pe fn tm ps x y d)=some H'):
  ∃w',(Instr.endLoop k.r).run P w=.ok pe w'∧Rel P φ H' w'∧Ext φ H w φ H' w':=by
 obtain⟨r,w',h1,h2,h3,h4,h5,h6⟩:=zDl h hl hg hs (zAk h hl hg).choose_spec.choose_spec.choose_spec.2.2.2.2.2.2.2
 refine⟨w',?_,h5,h6⟩
 subst h3
 have hne:r.state≠.busy:=by rw[h2];exact hb
 simp[Instr.endLoop,h1,h4,hne]
theorem round_sound(hD:zo P E)(h:Rel P φ H w){l:Id}{k:Loc}(hl:φ l=some k){args:V}{vs:List Value}(hargs:LR φ args vs)(hr:zHB E args H l=.ok v H'):
  ∃fn tmps x y,(Instr.yield k.r vs.toArray).run P w=.ok (.round k.r fn tmps x y) w∧RoundIn Fence.wide 0 P k.r fn tmps x y w (Back P φ H w v H'):=by
 obtain⟨s,pe,fn,tm,ps,x,y,d,hg,hr1⟩:=onLoop_ok hr R.ok_ne
 obtain⟨tm',hset,hr2⟩:=zP hr1 R.ok_ne
 obtain⟨tmps,kd,fn',h1,h2,h3,h4,h5,h6,h7,h8⟩:=zAk h hl hg
 obtain⟨q1,q2,q3⟩:=setParams_rel hargs h4 h7 hset
 have hsz:vs.toArray.size=ps.toArray.size:=by simp[q1]
 refine⟨fn',(ps.toArray.zip vs.toArray).foldl (fun tmps (t,a)=>tmps.setIfInBounds t a) tmps,x,y,?_,?_⟩
 ·simp only[Instr.yield,Sem.run_bind,h3,Result.andThen_ok,hsz,ne_eq,not_true,if_false,Sem.run_pure]
 ·have hz:(ps.toArray.zip vs.toArray).foldl (fun tmps (t,a)=>tmps.setIfInBounds t a) tmps=(ps.zip vs).foldl (fun tmps (t,a)=>tmps.setIfInBounds t a) tmps:=by
   simp
  rw[hz]
  generalize (ps.zip vs).foldl (fun tmps (t,a)=>tmps.setIfInBounds t a) tmps=tmps' at*
  refine roundIn_of_wpIn trivial ?_
  unfold beginRound at hr2
  split at hr2
  ·cases hr2
  ·rename_i ex tm1 ds1 H1 hc
   split at hr2
   ·split at hr2
    ·rename_i s1 pe1 fn1 tm1' ps1 x1 y1 d1 hg1
     split at hr2
     ·obtain⟨H2,hs2,hr3⟩:=zP hr2 R.ok_ne
      have:=hD (a:={tmps:=tmps',defers:=[]}) (r:=some k.r) h q2 .nil (show RoR φ (some l) (some k.r)from⟨k,hl,rfl⟩) (by rw[q3];exact h5) hc
      refine wpIn_mono this ?_
      rintro e a1 w1 ⟨rfl,φ1,b1,b2,b3,b4,b5⟩
      have hl1:=b2.le _ _ hl
      obtain⟨w2,c1,c2,c3⟩:=zHS b1 hl1 hg1 hs2
      refine⟨w2,c1,?_⟩
      unfold endRound at hr3
      split at hr3
      ·cases hr3
      ·rename_i ex3 tm3 ds3 H3 hc3
       split at hr3
       ·cases hr3
       ·split at hr3
        ·rename_i s3 pe3 fn3 tm3' ps3 x3 y3 d3 hg3
         have hbody:=hD (a:=a1) (r:=some k.r) c2 b3 (by exact b5) (show RoR φ1 (some l) (some k.r)from⟨k,hl1,rfl⟩) (by rw[b4];show yh P tmps'.size y=true;rw[q3];exact h6) hc3
         refine wpIn_mono hbody ?_
         rintro e a3 w3 ⟨rfl,φ3,f1,f2,f3,f4,f5⟩
         have hl3:=f2.le _ _ hl1
         have hext:Ext φ H w φ3 H3 w3:=(b2.trans h (c3.trans b1 f2))
         cases ex3 with
         |normal=>
          obtain⟨H4,hs4,hr4⟩:=zP (show opt R.no (R.ok (.bool true)) (H3.set l (.loop .ready none fn3 tm3' ps3 x3 y3 d3))=.ok v H' from hr3) R.ok_ne
          cases hr4
          obtain⟨w4,g1,g2,g3⟩:=zBj (j:=none) f1 hl3 hg3 hs4 (by simp)
          exact⟨_,w4,g1,_,φ3,rfl,g2,hext.trans h g3,.bool _⟩
         |ret=>
          obtain⟨H4,hs4,hr4⟩:=zP (show opt R.no (R.ok (.bool false)) (H3.set l (.loop .done (some .ret) fn3 tm3' ps3 x3 y3 d3))=.ok v H' from hr3) R.ok_ne
          cases hr4
          obtain⟨w4,g1,g2,g3⟩:=zBj (j:=some .ret) f1 hl3 hg3 hs4 (by intro c hc n;cases hc;rfl)
          exact⟨_,w4,g1,_,φ3,rfl,g2,hext.trans h g3,.bool _⟩
         |exit i=>
          obtain⟨H4,hs4,hr4⟩:=zP (show opt R.no (R.ok (.bool false)) (H3.set l (.loop .done (some (.exit i)) fn3 tm3' ps3 x3 y3 d3))=.ok v H' from hr3) R.ok_ne
          cases hr4
          obtain⟨w4,g1,g2,g3⟩:=zBj (j:=some (.exit i)) f1 hl3 hg3 hs4 (by intro c hc n;cases hc;rfl)
          exact⟨_,w4,g1,_,φ3,rfl,g2,hext.trans h g3,.bool _⟩
         |goto i=>
          obtain⟨H4,hs4,hr4⟩:=zP (show opt R.no (R.ok (.bool false)) (H3.set l (.loop .done (some (.goto i)) fn3 tm3' ps3 x3 y3 d3))=.ok v H' from hr3) R.ok_ne
          cases hr4
          obtain⟨w4,g1,g2,g3⟩:=zBj (j:=some (.goto i)) f1 hl3 hg3 hs4 (by intro c hc n;cases hc;rfl)
          exact⟨_,w4,g1,_,φ3,rfl,g2,hext.trans h g3,.bool _⟩
        ·cases hr3
     ·cases hr2
    ·cases hr2
   ·cases hr2
end Vam
namespace Vam
open Go
variable {P:Program}{φ:Phi}{H H':CH}{w:World}{v:V}{E:Ev}
theorem TmR.put{tm:TT}{a:Act}(h:TmR φ tm a.tmps){d:Option Tmp}{x:V}{xv:Value}(hd:wj a.tmps.size d=true)(hx:VR φ x xv):
  TmR φ (setT tm d x) (a.put d xv).tmps∧(a.put d xv).tmps.size=a.tmps.size∧(a.put d xv).defers=a.defers:=by
 cases d with
 |none=>exact⟨h,rfl,rfl⟩
 |some d=>exact⟨h.set (yu hd) hx,by simp[Act.put],rfl⟩
theorem semAt_call{o:Oper}{c:Call}(ho:o.op=.call c)(r:Option Nat)(a:Act):o.semAt r a.eval=execOp a.eval o:=
 Oper.semAt_eq r a.eval o (fun d hd=>by rw[ho]at hd;cases hd)
theorem op_wp(hC:yi P E)(hD:zo P E)(h:Rel P φ H w){tm:TT}{a:Act}(htm:TmR φ tm a.tmps){o:Oper}(hok:wF a.tmps.size o=true)(hr:evOp P E tm H o.op=.ok v H')
  {next:Act→World→Prop} {Q:Exit→Act→World→Prop} {r:Option Nat}
  (hnext:∀φ' w' x,Rel P φ' H' w'→Ext φ H w φ' H' w'→VR φ' v x→next (a.put o.dst x) w'):o.wpIn (wU r) 0 P a w next Q:=by
 by_cases hc:∃c,o.op=.call c
 ·obtain⟨c,ho⟩:=hc
  obtain⟨_,hall⟩:=Bool.and_eq_true_iff.1 hok
  rw[ho]at hr hall
  have hs:=semAt_call ho r a
  obtain⟨callee,args,ts⟩:=c
  have hr:zGE P E tm args.toList ts.toList H callee=.ok v H':=hr
  have hmap:∀A:Array Operand,(A.toList.map a.eval).toArray=A.map a.eval:=fun A=>by apply Array.ext';simp
  cases callee with
  |builtin b=>
   have hargs:LR φ (yY tm args.toList) (args.toList.map a.eval):=zBW htm (by
    rw[List.all_eq_true];intro x hx;exact List.all_eq_true.1 hall x (by simpa[Op.operands,Call.operands]using hx))
   have:=sim_builtin (ts:=ts) (ty:=o.type) (cn:=args.map fun| .const _=>true|_=>false) h hargs (show wZ P b ts.toList (yY tm args.toList) H=.ok v H' from hr)
   refine wp_of_sim this ?_ hnext
   rw[hs,hmap]
   simp only[execOp,ho,resolve,invoke,Sem.run_bind,Sem.run_pure,Result.andThen_ok]
   rfl
  |value f=>
   have hargs:LR φ (yY tm args.toList) (args.toList.map a.eval):=zBW htm (by
    rw[List.all_eq_true];intro x hx;exact List.all_eq_true.1 hall x (by simp[Op.operands,Call.operands];exact .inr (by simpa using hx)))
   cases f with
   |const _=>cases hr
   |global _=>cases hr
   |func g=>
    obtain⟨h1,h2⟩:=hC h hargs (show E.call g (yY tm args.toList) H=.ok v H' from hr)
    refine zGJ (f:=g) (args:=(args.toList.map a.eval).toArray) ?_ h2 hnext
    rw[hs,hmap]
    simp only[execOp,ho,resolve,Act.eval,Deferred.ofValue,invoke,Sem.run_bind,Sem.run_pure,Result.andThen_ok,Array.empty_append,Array.append_empty]
    exact zCw h1
   |tmp t=>
    have ht:VR φ (tm.get t) (a.eval (.tmp t)):=htm.2 t (yu (List.all_eq_true.1 hall (.tmp t) (by simp[Op.operands,Call.operands])))
    rcases onFunc_ok (show zHa .no (callFn E (yY tm args.toList) H) (zHB E (yY tm args.toList) H) (tm.get t)=.ok v H' from hr) R.ok_ne with ⟨g,x,y,e1,h1⟩|⟨l,e1,h1⟩
    ·rw[e1]at ht
     generalize hv:a.eval (.tmp t)=fv at ht
     cases ht with
     |func _ _ _ A B hA hB=>
      obtain⟨h2,h3⟩:=hC h (LR.app hA (LR.app hargs hB)) h1
      refine zGJ (f:=g) (args:=(A.toList++(args.toList.map a.eval++B.toList)).toArray) ?_ h3 hnext
      have e2:(A.toList++(args.toList.map a.eval++B.toList)).toArray=A++args.map a.eval++B:=by
       apply Array.ext';simp
      rw[hs,e2]
      simp only[execOp,ho,resolve,hv,Deferred.ofValue,invoke,Sem.run_bind,Sem.run_pure,Result.andThen_ok]
      exact zCw h2
    ·rw[e1]at ht
     generalize hv:a.eval (.tmp t)=fv at ht
     cases ht with
     |yield _ k hk=>
      obtain⟨fn,tmps,x,y,h2,h3⟩:=round_sound hD h hk hargs h1
      refine wp_of_round ?_ h3 hnext
      rw[hs]
      rw[hmap]at h2
      simp only[execOp,ho,resolve,hv,Deferred.ofValue,invoke,Sem.run_bind,Sem.run_pure,Result.andThen_ok,Array.empty_append]
      exact h2
  |invoke _ _=>cases hr
 ·have hs:=sim_exec h htm hok (fun c hc'=>hc ⟨c,hc'⟩) hr
  refine wp_of_sim hs ?_ hnext
  rw[Oper.semAt_eq r a.eval o]
  intro d hd
  rw[hd]at hr;cases hr
end Vam
namespace Vam
open Go
variable {P:Program}{φ:Phi}{H H':CH}{w:World}{v:V}{E:Ev}
theorem zFy{α:Type}(l:List α)(i:Nat):nthO l i=l[i]? :=by
 induction l generalizing i with
 |nil=>rfl
 |cons x l ih=>
  cases i with
  |zero=>rfl
  |succ i=>rw[List.getElem?_cons_succ,←ih];rfl
def boolIn:Value→Option Bool
 | .bool b=>some b
 |_=>none
theorem onBool_some(x:V){xv:Value}(hx:VR φ x xv):wB none (fun b=>some b) x=boolIn xv:=by
 cases hx<;>rfl
theorem yielded_eq{ops:Array Oper}{tm:TT}{tmps:Array Value}(htm:TmR φ tm tmps)(hok:ops.toList.all (wF tmps.size)=true)(j:Nat):zDN ops.toList tm j=yielded ops tmps j:=by
 unfold zDN yielded
 rw[zFy,Array.getElem?_toList]
 cases ho:ops[j]? with
 |none=>rfl
 |some o=>
  have ho':wF tmps.size o=true:=List.all_eq_true.1 hok o (by simpa using Array.mem_of_getElem? ho)
  show opt none (fun d=>wB none (fun b=>some b) (tm.get d)) o.dst=_
  cases hd:o.dst with
  |none=>simp[hd,opt]
  |some d=>
   have hlt:d<tmps.size:=by
    have:=(Bool.and_eq_true_iff.1 ho').1
    rw[hd]at this;exact yu this
   show wB none (fun b=>some b) (tm.get d)=_
   rw[onBool_some _ (htm.2 d hlt)]
   have hget:tmps[d]? =some (tmps.getD d Go.undef):=by
    rw[Array.getElem?_eq_getElem hlt];simp[Array.getD,hlt]
   simp only[Option.bind_some,hd,hget]
   generalize tmps.getD d Go.undef=x
   cases x<;>rfl
theorem bEq_eq(a b:Bool):bEq a b=(a==b):=by cases a<;>cases b<;>rfl
theorem wantB_eq{ops:Array Oper}{tm:TT}{tmps:Array Value}(htm:TmR φ tm tmps)(hok:ops.toList.all (wF tmps.size)=true)(o:Oper)(g:Nat×Bool)(hg:o.guard=some g):
  Region.wanted o (yielded ops tmps)=zBs ops.toList tm g:=by
 obtain⟨j,want⟩:=g
 unfold Region.wanted zBs
 rw[hg,yielded_eq htm hok]
 show(yielded ops tmps j==some want)=opt false (fun b=>bEq b want) (yielded ops tmps j)
 cases yielded ops tmps j with
 |none=>rfl
 |some b=>show(some b==some want)=bEq b want;rw[bEq_eq];rfl
theorem opsGo_ok{dst:Option Nat}{op:Op}{tm tm':TT}{ih:KO}(h:zCn P E dst op tm H ih=.ok tm' H'):
  ∃v H₁,evOp P E tm H op=.ok v H₁∧ih (setT tm dst v) H₁=.ok tm' H':=by
 unfold zCn at h
 cases hc:evOp P E tm H op with
 |no=>rw[hc]at h;cases h
 |ok v H₁=>rw[hc]at h;exact⟨v,H₁,rfl,h⟩
theorem ops_sound(hC:yi P E)(hD:zo P E){ops:Array Oper}{Q:Exit→Act→World→Prop}{r:Option Nat}:∀(l:List Oper) (i:Nat),ops.toList.drop i=l→
  ∀{tm tm':TT} {H H':CH} {φ:Phi} {w:World} {a:Act},ops.toList.all (wF a.tmps.size)=true→Rel P φ H w→TmR φ tm a.tmps→zBq P E ops.toList l tm H=.ok tm' H'→
  (∀a' w' φ',Rel P φ' H' w'→Ext φ H w φ' H' w'→TmR φ' tm' a'.tmps→a'.tmps.size=a.tmps.size→a'.defers=a.defers→Q .normal a' w')→
  wpOpsIn (wU r) 0 P ops Q ((List.range ops.size).drop i) a w:=by
 intro l
 induction l with
 |nil=>
  intro i hi tm tm' H H' φ w a hok h htm hr hq
  cases(show RO.ok tm H=.ok tm' H' from hr)
  have hlen:ops.size≤i:=by have:=List.drop_eq_nil_iff.1 hi;simpa using this
  rw[List.drop_eq_nil_of_le (by simpa using hlen)]
  exact hq a w φ h (.refl _ _ _) htm rfl rfl
 |cons o l ih=>
  intro i hi tm tm' H H' φ w a hok h htm hr hq
  have hlt:i<ops.size:=by
   rcases Nat.lt_or_ge i ops.size with h1|h1
   ·exact h1
   ·rw[List.drop_eq_nil_of_le (by simpa using h1)]at hi;cases hi
  have hlt':i<ops.toList.length:=by simpa using hlt
  rw[List.drop_eq_getElem_cons hlt']at hi
  injection hi with hi1 hi2
  have ho:ops[i]? =some o:=by rw[Array.getElem?_eq_getElem hlt,←hi1];simp
  rw[List.drop_eq_getElem_cons (by simpa using hlt),wpOpsIn_cons]
  simp only[List.getElem_range]
  unfold wpOpIn
  simp only[ho]
  have hoko:wF a.tmps.size o=true:=List.all_eq_true.1 hok o (by rw[←hi1];exact List.getElem_mem _)
  have hdst:wj a.tmps.size o.dst=true:=(Bool.and_eq_true_iff.1 hoko).1
  have skip:zBq P E ops.toList l (setT tm o.dst undef) H=.ok tm' H'→wpOpsIn (wU r) 0 P ops Q ((List.range ops.size).drop (i+1)) (a.put o.dst Go.undef) w:=by
   intro hr'
   obtain⟨p1,p2,p3⟩:=htm.put hdst (zEG φ)
   exact ih (i+1) hi2 (by rw[p2];exact hok) h p1 hr' (fun a' w' φ' q1 q2 q3 q4 q5=>hq a' w' φ' q1 q2 q3 (q4.trans p2) (q5.trans p3))
  have go:zCn P E o.dst o.op tm H (zBq P E ops.toList l)=.ok tm' H'→o.wpIn (wU r) 0 P a w (wpOpsIn (wU r) 0 P ops Q ((List.range ops.size).drop (i+1))) Q:=by
   intro hr'
   obtain⟨v,H₁,g1,g2⟩:=opsGo_ok hr'
   refine op_wp hC hD h htm hoko g1 (fun φ' w' x k1 k2 k3=>?_)
   obtain⟨p1,p2,p3⟩:=(htm.mono k2.le).put hdst k3
   exact ih (i+1) hi2 (by rw[p2];exact hok) k1 p1 g2 (fun a' w'' φ'' q1 q2 q3 q4 q5=>hq a' w'' φ'' q1 (k2.trans h q2) q3 (q4.trans p2) (q5.trans p3))
  cases hg:o.guard with
  |none=>
   have hr':zCn P E o.dst o.op tm H (zBq P E ops.toList l)=.ok tm' H':=by
    have e:zBq P E ops.toList (o::l) tm H=opsStep P E ops.toList (zBq P E ops.toList l) tm H o.dst o.op o.type o.pos o.after o.guard:=rfl
    rw[e,hg]at hr;exact hr
   rw[if_pos (by simp[Region.wanted,hg])]
   exact go hr'
  |some g=>
   have hr':opsIf P E o.dst o.op tm H (zBq P E ops.toList l) (zBs ops.toList tm g)=.ok tm' H':=by
    have e:zBq P E ops.toList (o::l) tm H=opsStep P E ops.toList (zBq P E ops.toList l) tm H o.dst o.op o.type o.pos o.after o.guard:=rfl
    rw[e,hg]at hr;exact hr
   rw[wantB_eq htm hok o g hg]
   cases hb:zBs ops.toList tm g with
   |true=>rw[hb]at hr';rw[if_pos rfl];exact go hr'
   |false=>rw[hb]at hr';rw[if_neg (by simp)];exact⟨fun _ _=>trivial,skip hr'⟩
end Vam
namespace Vam
open Go
variable {P:Program}{φ:Phi}{H H':CH}{w:World}{v:V}{E:Ev}
section
variable {b:Frame}{a:Act}{k:List Item}{cs:List Frame}{w:World}{Q:Exit→Act→World→Prop}{F:Fence}{n:Nat}
theorem zAc{c:Code}:step P (lone (b.atR a (.code (.scope c)::k)) cs w)=.next (lone (b.atR a (.code c::.inScope c::k)) cs w):=
 step_lone_go (by simp[stepG,stepG.exec,Frame.atR])
theorem stepR_inScope{c:Code}:step P (lone (b.atR a (.inScope c::k)) cs w)=.next (lone (b.atR a k) cs w):=
 step_lone_go (by simp[stepG,stepG.exec,Frame.atR])
theorem wpIn_scope{c:Code}(h:c.wpIn F n P (Exit.noGoto Q) a w):(Code.scope c).wpIn F n P Q a w:=by
 intro b k cs hro hb hr
 have h0:(lone (b.atR a (.code (.scope c)::k)) cs w).fenced P F:=fenced_calm hb hr rfl
 obtain⟨e,a₁,w₁,hq,harr⟩:=h b (.inScope c::k) cs hro hb hr
 cases e with
 |normal=>exact⟨.normal,a₁,w₁,hq,.head h0 zAc (StepsIn.trans harr (.one (fenced_calm hb hr rfl) stepR_inScope))⟩
 |exit id=>exact⟨.exit id,a₁,w₁,hq,fun k' hk=>.head h0 zAc (harr.1 k' (by simp[exitTo,hk])),fun hn hk=>by
   obtain⟨k₁,hk₁,hs⟩:=harr.2 hn (by simp[exitTo,hk])
   exact⟨k₁,hk₁,.head h0 zAc hs⟩⟩
 |goto l=>exact hq.elim
 |ret=>exact⟨_,a₁,w₁,hq,.of_steps (.one h0 zAc) harr⟩
 |panic ch=>exact⟨_,a₁,w₁,hq,.of_steps (.one h0 zAc) harr⟩
 |outgrown=>exact⟨_,a₁,w₁,hq,.of_steps (.one h0 zAc) harr⟩
end
theorem After.base{φ₁:Phi}{H₁:CH}{w₁:World}{ex:Ex}{tm:TT}{ds:List Id}{n:Nat}(h:Rel P φ H w)(k:Ext φ H w φ₁ H₁ w₁){e:Exit}{a':Act}{w':World}
  (ha:After P φ₁ H₁ w₁ ex tm ds H' n e a' w'):After P φ H w ex tm ds H' n e a' w':=by
 obtain⟨h1,φ',h2,h3,h4⟩:=ha
 exact⟨h1,φ',h2,k.trans h h3,h4⟩
def SoundDraw(P:Program)(E:Ev):Prop:=∀{id:Nat} {ops:Array Oper} {tm tm':TT} {ds:List Id} {H H':CH} {φ:Phi} {w:World} {a:Act} {r:Option Nat},
 Rel P φ H w→TmR φ tm a.tmps→DfR φ ds a.defers→ops.toList.all (wF a.tmps.size)=true→okDraw P ops.toList=true→
 zFJ P E ops.toList tm H=.ok tm' H'→
 (Code.region id ops true).wpIn (wU r) 0 P (After P φ H w .normal tm' ds H' a.tmps.size) a w
def zDL(P:Program)(E:Ev)(m:Nat):Prop:=∀{c:Code} {tm:TT} {ds:List Id} {ro:Option Id} {fn:FuncId} {H:CH} {ex:Ex} {tm':TT} {ds':List Id} {H':CH} {φ:Phi} {w:World} {a:Act} {r:Option Nat},
 Rel P φ H w→TmR φ tm a.tmps→DfR φ ds a.defers→RoR φ ro r→yh P a.tmps.size c=true→E.code (.loop c) tm ds ro fn H=.ok ex tm' ds' H'→
 Code.roundsIn (wU r) 0 P c (After P φ H w ex tm' ds' H' a.tmps.size) m a w
theorem RC.inv{α:Type}{no:α}{f:Ex→TT→List Id→CH→α}{r:RC}{x:α}(h:RC.rec (motive:=fun _=>α) no f r=x)(hx:x≠no):∃e tm ds H,r=.ok e tm ds H∧f e tm ds H=x:=by
 cases r with
 |no=>exact absurd h.symm hx
 |ok e tm ds H=>exact⟨e,tm,ds,H,rfl,h⟩
theorem RC.ok_ne{e:Ex}{tm:TT}{ds:List Id}{H:CH}:RC.ok e tm ds H≠RC.no:=by intro h;cases h
theorem zHo{ds ds':List Id}{r:RO}{ex:Ex}{tm':TT}(h:zDH ds r=.ok ex tm' ds' H'):r=.ok tm' H'∧ex=.normal∧ds'=ds:=by
 cases r with
 |no=>cases h
 |ok tm H=>cases h;exact⟨rfl,rfl,rfl⟩
theorem roundsIn_mono{F:Fence}{n:Nat}{c:Code}{Q Q':Exit→Act→World→Prop}(hq:∀e a w,Q e a w→Q' e a w):∀{m:Nat} {a:Act} {w:World},Code.roundsIn F n P c Q m a w→Code.roundsIn F n P c Q' m a w:=by
 intro m
 induction m with
 |zero=>intro a w h;exact h.elim
 |succ m ih=>
  intro a w h
  refine Go.wpIn_mono h (fun e a w q=>?_)
  cases e<;>first|exact ih q|exact hq _ _ _ q
theorem seq_after{c₂:Code}{tm₁:TT}{ds₁:List Id}{ro:Option Id}{fn:FuncId}{H₁:CH}{ex₁ ex:Ex}{tm':TT}{ds':List Id}{n:Nat}{K:Act→World→Prop}
  (h:Rel P φ H w) (hr:cThen E c₂ ro fn ex₁ tm₁ ds₁ H₁=.ok ex tm' ds' H') {e:Exit} {a₁:Act} {w₁:World} (ha:After P φ H w ex₁ tm₁ ds₁ H₁ n e a₁ w₁)
  (hK:∀φ₁,Rel P φ₁ H₁ w₁→Ext φ H w φ₁ H₁ w₁→TmR φ₁ tm₁ a₁.tmps→a₁.tmps.size=n→DfR φ₁ ds₁ a₁.defers→E.code c₂ tm₁ ds₁ ro fn H₁=.ok ex tm' ds' H'→K a₁ w₁):
  Exit.then K (After P φ H w ex tm' ds' H' n) e a₁ w₁:=by
 obtain⟨rfl,φ₁,b1,b2,b3,b4,b5⟩:=ha
 cases ex₁ with
 |normal=>exact hK φ₁ b1 b2 b3 b4 b5 hr
 |exit i=>cases(show RC.ok (.exit i) tm₁ ds₁ H₁=.ok ex tm' ds' H' from hr);exact⟨rfl,φ₁,b1,b2,b3,b4,b5⟩
 |goto i=>cases(show RC.ok (.goto i) tm₁ ds₁ H₁=.ok ex tm' ds' H' from hr);exact⟨rfl,φ₁,b1,b2,b3,b4,b5⟩
 |ret=>cases(show RC.ok .ret tm₁ ds₁ H₁=.ok ex tm' ds' H' from hr);exact⟨rfl,φ₁,b1,b2,b3,b4,b5⟩
theorem step_loop{m:Nat}(hD:zo P E)(hL:zDL P E m):zDL P (stepEv P E) (m+1):=by
 intro c tm ds ro fn H ex tm' ds' H' φ w a r h htm hds hro hok hr
 have hr:cSeq E (.loop c) ro fn (E.code c tm ds ro fn H)=.ok ex tm' ds' H':=hr
 obtain⟨ex₁,tm₁,ds₁,H₁,h1,h2⟩:=RC.inv hr RC.ok_ne
 refine Go.wpIn_mono (hD h htm hds hro hok h1) (fun e a₁ w₁ ha=>?_)
 refine seq_after h h2 ha (fun φ₁ b1 b2 b3 b4 b5 b6=>?_)
 have:=hL b1 b3 b5 (hro.mono b2.le) (by rw[b4];exact hok) b6
 refine roundsIn_mono (fun e a w q=>?_) this
 rw[b4]at q
 exact After.base h b2 q
theorem step_code{m:Nat}(hC:yi P E)(hD:zo P E)(hL:zDL P E m)(hW:SoundDraw P E)
  (hR:∀{f:Operand} {ps:Array Tmp} {x y:Code} {tm:TT} {ds:List Id} {ro:Option Id} {fn:FuncId} {H:CH} {ex:Ex} {tm':TT} {ds':List Id} {H':CH} {φ:Phi} {w:World} {a:Act} {r:Option Nat},
   Rel P φ H w→TmR φ tm a.tmps→DfR φ ds a.defers→RoR φ ro r→yh P a.tmps.size (.rangeFunc f ps x y)=true→zFW E (zG tm f) ps x y tm ds ro fn H=.ok ex tm' ds' H'→
   (Code.rangeFunc f ps x y).wpIn (wU r) 0 P (After P φ H w ex tm' ds' H' a.tmps.size) a w):zo P (stepEv P E):=by
 intro c tm ds ro fn H ex tm' ds' H' φ w a r h htm hds hro hok hr
 have stay:∀{ex':Ex},RC.ok ex' tm ds H=.ok ex tm' ds' H'→After P φ H w ex tm' ds' H' a.tmps.size (exOf ex') a w:=by
  intro ex' e;cases e;exact⟨rfl,φ,h,.refl _ _ _,htm,rfl,hds⟩
 have hr:stepCode P E c tm ds ro fn H=.ok ex tm' ds' H':=hr
 cases c with
 |skip=>exact wpIn_skip (stay hr)
 |label l=>exact wpIn_label (stay hr)
 |exit i=>exact wpIn_exit (stay hr)
 |goto i=>exact wpIn_goto (stay hr)
 |ret=>exact wpIn_ret (stay hr)
 |refuse s=>cases hr
 |region id ops q=>
  obtain⟨hok1,hok2⟩:=Bool.and_eq_true_iff.1 (show(ops.toList.all (wF a.tmps.size)&&(!q||okDraw P ops.toList))=true from hok)
  cases q with
  |true=>
   obtain⟨h1,rfl,rfl⟩:=zHo (show zDH ds (zFJ P E ops.toList tm H)=.ok ex tm' ds' H' from hr)
   exact hW h htm hds hok1 (by simpa using hok2) h1
  |false=>
   obtain⟨h1,rfl,rfl⟩:=zHo (show zDH ds (zBq P E ops.toList ops.toList tm H)=.ok ex tm' ds' H' from hr)
   refine wpIn_region ?_
   have:=ops_sound hC hD (Q:=After P φ H w .normal tm' ds' H' a.tmps.size) (r:=r) ops.toList 0 rfl hok1 h htm h1 (fun a' w' φ' q1 q2 q3 q4 q5=>⟨rfl,φ',q1,q2,q3,q4,by rw[q5];exact hds.mono q2.le⟩)
   simpa using this
 |seq x y=>
  obtain⟨hok1,hok2⟩:=Bool.and_eq_true_iff.1 (show(yh P a.tmps.size x&&yh P a.tmps.size y)=true from hok)
  obtain⟨ex₁,tm₁,ds₁,H₁,h1,h2⟩:=RC.inv (show cSeq E y ro fn (E.code x tm ds ro fn H)=.ok ex tm' ds' H' from hr) RC.ok_ne
  refine wpIn_seq (Go.wpIn_mono (hD h htm hds hro hok1 h1) (fun e a₁ w₁ ha=>?_))
  refine seq_after h h2 ha (fun φ₁ b1 b2 b3 b4 b5 b6=>?_)
  refine Go.wpIn_mono (hD b1 b3 b5 (hro.mono b2.le) (by rw[b4];exact hok2) b6) (fun e a w q=>?_)
  rw[b4]at q
  exact After.base h b2 q
 |cond x y z=>
  obtain⟨hok1,hok2⟩:=Bool.and_eq_true_iff.1 (show(okO a.tmps.size x&&yh P a.tmps.size y&&yh P a.tmps.size z)=true from hok)
  obtain⟨hok3,hok4⟩:=Bool.and_eq_true_iff.1 hok1
  have hx:=zAX htm hok3
  obtain⟨b,e1,h1⟩:=zBU (show wB .no (fun t=>E.code (cond t y z) tm ds ro fn H) (zG tm x)=.ok ex tm' ds' H' from hr) RC.ok_ne
  rw[e1]at hx
  have hb:a.eval x=.bool b:=by
   generalize a.eval x=xv at hx
   cases hx;rfl
  refine wpIn_cond hb ?_
  cases b with
  |true=>exact hD h htm hds hro hok4 h1
  |false=>exact hD h htm hds hro hok2 h1
 |block id x=>
  obtain⟨ex₁,tm₁,ds₁,H₁,h1,h2⟩:=RC.inv (show cBlock id (E.code x tm ds ro fn H)=.ok ex tm' ds' H' from hr) RC.ok_ne
  refine wpIn_block (Go.wpIn_mono (hD h htm hds hro (show yh P a.tmps.size x=true from hok) h1) ?_)
  rintro e a₁ w₁ ⟨rfl,φ₁,b1,b2,b3,b4,b5⟩
  cases ex₁ with
  |normal=>cases(show RC.ok .normal tm₁ ds₁ H₁=.ok ex tm' ds' H' from h2);exact⟨rfl,φ₁,b1,b2,b3,b4,b5⟩
  |exit i=>
   have h2:RC.ok (cond (Nat.beq i id) .normal (.exit i)) tm₁ ds₁ H₁=.ok ex tm' ds' H':=h2
   show(if i=id then After P φ H w ex tm' ds' H' a.tmps.size .normal a₁ w₁ else After P φ H w ex tm' ds' H' a.tmps.size (.exit i) a₁ w₁)
   by_cases hi:i=id
   ·subst hi
    rw[if_pos rfl]
    rw[show Nat.beq i i=true from Nat.beq_refl i]at h2
    cases h2;exact⟨rfl,φ₁,b1,b2,b3,b4,b5⟩
   ·rw[if_neg hi]
    rw[show Nat.beq i id=false by rw[zBn];exact decide_eq_false hi]at h2
    cases h2;exact⟨rfl,φ₁,b1,b2,b3,b4,b5⟩
  |goto i=>cases(show RC.ok (.goto i) tm₁ ds₁ H₁=.ok ex tm' ds' H' from h2);exact⟨rfl,φ₁,b1,b2,b3,b4,b5⟩
  |ret=>cases(show RC.ok .ret tm₁ ds₁ H₁=.ok ex tm' ds' H' from h2);exact⟨rfl,φ₁,b1,b2,b3,b4,b5⟩
 |loop x=>exact wpIn_loop_rounds (m+1) (step_loop hD hL h htm hds hro (show yh P a.tmps.size x=true from hok) hr)
 |rangeFunc f ps x y=>exact hR h htm hds hro hok hr
 |scope x=>
  obtain⟨ex₁,tm₁,ds₁,H₁,h1,h2⟩:=RC.inv (show cScope (E.code x tm ds ro fn H)=.ok ex tm' ds' H' from hr) RC.ok_ne
  refine wpIn_scope (Go.wpIn_mono (hD h htm hds hro (show yh P a.tmps.size x=true from hok) h1) ?_)
  rintro e a₁ w₁ ⟨rfl,φ₁,b1,b2,b3,b4,b5⟩
  cases ex₁ with
  |normal=>cases(show RC.ok .normal tm₁ ds₁ H₁=.ok ex tm' ds' H' from h2);exact⟨rfl,φ₁,b1,b2,b3,b4,b5⟩
  |exit i=>cases(show RC.ok (.exit i) tm₁ ds₁ H₁=.ok ex tm' ds' H' from h2);exact⟨rfl,φ₁,b1,b2,b3,b4,b5⟩
  |goto i=>cases h2
  |ret=>cases(show RC.ok .ret tm₁ ds₁ H₁=.ok ex tm' ds' H' from h2);exact⟨rfl,φ₁,b1,b2,b3,b4,b5⟩
end Vam
namespace Vam
open Go
variable {P:Program}{φ:Phi}{H H':CH}{w:World}{v:V}{E:Ev}
theorem TT.ofV_cons(x l:V)(i:Nat)(t:TT):TT.ofV (.cons x l) i t=TT.ofV l (i+1) (TT.set x t i):=rfl
theorem TT.ofV_nil(i:Nat)(t:TT):TT.ofV .nil i t=t:=rfl
theorem ofV_rel:∀{vs:List Value} {args:V} {n i:Nat} {tm:TT} {pre:List Value},LR φ args vs→pre.length=i→i+vs.length≤n→
  TmR φ tm (pre++List.replicate (n - i) Go.undef).toArray→TmR φ (TT.ofV args i tm) (pre++vs++List.replicate (n - (i+vs.length)) Go.undef).toArray:=by
 intro vs
 induction vs with
 |nil=>
  intro args n i tm pre ha hi hle ht
  cases ha
  simpa[TT.ofV_nil]using ht
 |cons x vs ih=>
  intro args n i tm pre ha hi hle ht
  cases ha with
  |cons y l _ _ h1 h2=>
   rw[TT.ofV_cons]
   simp only[List.length_cons]at hle
   have hset:=ht.set (d:=i) (x:=y) (v:=x) (by simp;omega) h1
   have e:(pre++List.replicate (n - i) Go.undef).toArray.setIfInBounds i x=(pre++[x]++List.replicate (n - (i+1)) Go.undef).toArray:=by
    rw[show n - i=(n - (i+1))+1 by omega,List.replicate_succ]
    subst hi
    apply Array.ext'
    simp
   rw[e]at hset
   have:=ih (pre:=pre++[x]) (i:=i+1) (n:=n) h2 (by simp[hi]) (by omega) hset
   have e2:pre++[x]++vs++List.replicate (n - (i+1+vs.length)) Go.undef=pre++(x::vs)++List.replicate (n - (i+(x::vs).length)) Go.undef:=by
    simp[Nat.add_assoc,Nat.add_comm 1]
   rw[e2]at this
   exact this
theorem frame_rel{args:V}{vs:List Value}{n:Nat}(ha:LR φ args vs)(hle:vs.length≤n)(hn:n≤1024):TmR φ (TT.ofV args 0 .leaf) (vs.toArray++Array.replicate (n - vs.toArray.size) Go.undef):=by
 have h0:TmR φ .leaf (([]:List Value)++List.replicate (n - 0) Go.undef).toArray:=by
  refine⟨by simpa using hn,fun i hi=>?_⟩
  rw[TT.get_leaf]
  have:(([]:List Value)++List.replicate (n - 0) Go.undef).toArray.getD i Go.undef=Go.undef:=by
   have hi':i<n:=by simpa using hi
   simp only[List.nil_append,Nat.sub_zero,Array.getD_eq_getD_getElem?]
   simp[hi']
  rw[this];exact zEG φ
 have:=ofV_rel (i:=0) (pre:=[]) (n:=n) ha rfl (by omega) h0
 have e:([]++vs++List.replicate (n - (0+vs.length)) Go.undef).toArray=vs.toArray++Array.replicate (n - vs.toArray.size) Go.undef:=by
  apply Array.ext';simp
 rw[e]at this
 exact this
def resOf(tmps:Array Value):ResultVar→Sem Value
 | .tmp t=>pure (tmps.getD t Go.undef)
 | .cell a t=>do loadVar t (←asAddr (tmps.getD a Go.undef))
theorem resultsL_cons(tm:TT)(H:CH)(r:ResultVar)(l:List ResultVar):zCP P tm H (r::l)=opt none (fun v=>opt none (fun l=>some (.cons v l)) (zCP P tm H l)) (zGV P tm H r):=rfl
theorem result1_rel(h:Rel P φ H w){tm:TT}{tmps:Array Value}(htm:TmR φ tm tmps){r:ResultVar}(hok:okRes tmps.size r=true)(hr:zGV P tm H r=some v):
  ∃x,(resOf tmps r).run P w=.ok x w∧VR φ v x:=by
 cases r with
 |tmp t=>
  cases(show some (tm.get t)=some v from hr)
  exact⟨_,rfl,htm.2 t (yu hok)⟩
 |cell a t=>
  have hx:=htm.2 a (yu hok)
  obtain⟨b,o,e1,h1⟩:=wg (no:=none) (show zAD none (zBB P t H) (tm.get a)=some v from hr) (by simp)
  rw[e1]at hx
  generalize hv:tmps.getD a Go.undef=xv at hx
  cases hx with
  |ptr _ _ k hk=>
   obtain⟨u,h3,h4⟩:=loadV_rel h hk h1
   exact⟨u,by simp[resOf,hv,asAddr,h3],h4⟩
  |glob _=>
   obtain⟨u,h3,h4⟩:=loadG_rel h h1
   exact⟨u,by simp[resOf,hv,asAddr,h3],h4⟩
theorem resultsL_rel(h:Rel P φ H w){tm:TT}{tmps:Array Value}(htm:TmR φ tm tmps):∀{l:List ResultVar} {vs:V},l.all (okRes tmps.size)=true→zCP P tm H l=some vs→
  ∃xs:List Value,(l.mapM (resOf tmps)).run P w=.ok xs w∧LR φ vs xs:=by
 intro l
 induction l with
 |nil=>intro vs _ hr;cases(show some V.nil=some vs from hr);exact⟨[],by simp,.nil⟩
 |cons r l ih=>
  intro vs hok hr
  obtain⟨hok1,hok2⟩:=Bool.and_eq_true_iff.1 (show(okRes tmps.size r&&l.all (okRes tmps.size))=true from hok)
  rw[resultsL_cons]at hr
  obtain⟨v,h1,h2⟩:=zP (no:=none) hr (by simp)
  obtain⟨vs',h3,h4⟩:=zP (no:=none) h2 (by simp)
  cases h4
  obtain⟨x,g1,g2⟩:=result1_rel h htm hok1 h1
  obtain⟨xs,g3,g4⟩:=ih hok2 h3
  exact⟨x::xs,by simp[List.mapM_cons,g1,g3],.cons _ _ _ _ g2 g4⟩
theorem results_rel(h:Rel P φ H w){fn:Func}{tm:TT}{tmps:Array Value}(htm:TmR φ tm tmps)(hok:fn.results.toList.all (okRes tmps.size)=true)(hr:zCO P fn.results.toList tm H=some v):
  ∃x,(results fn tmps).run P w=.ok x w∧VR φ v x:=by
 obtain⟨vs,h1,h2⟩:=zP (no:=none) hr (by simp)
 obtain⟨xs,h3,h4⟩:=resultsL_rel h htm hok h1
 have hm:(fn.results.mapM (resOf tmps)).run P w=.ok xs.toArray w:=by
  rw[Array.mapM_eq_mapM_toList];simp[h3]
 have hres:(results fn tmps).run P w=.ok (if h:xs.toArray.size=1 then xs.toArray[0]else .tuple xs.toArray) w:=by
  have e:results fn tmps=(do
   let vs ←fn.results.mapM (resOf tmps)
   pure (if h:vs.size=1 then vs[0]else .tuple vs)):=by
   unfold results
   have:(fun r:ResultVar=>(match r with| .tmp t=>pure (tmps.getD t Go.undef)| .cell a t=>do loadVar t (←asAddr (tmps.getD a Go.undef)):Sem Value))=resOf tmps:=by
    funext r;cases r<;>rfl
   rw[←this]
   rfl
  rw[e];simp[hm]
 refine⟨_,hres,?_⟩
 rcases za (no:=none) h2 (by simp)with ⟨rfl,h5⟩|⟨x,l,rfl,h5⟩
 ·cases h5
  obtain rfl:=LR.inv_nil h4
  exact zEG φ
 ·obtain⟨xv,xs',rfl,h6,h7⟩:=LR.inv_cons h4
  rcases za (no:=none) h5 (by simp)with ⟨rfl,h8⟩|⟨_,_,rfl,h8⟩
  ·cases h8
   obtain rfl:=LR.inv_nil h7
   simpa using h6
  ·cases h8
   obtain⟨yv,ys,rfl,h9,h10⟩:=LR.inv_cons h7
   rw[dif_neg (by simp)]
   exact .tup _ _ (by simpa using h4)
theorem zHL(b:Id)(ds:List Id)(H:CH):zAN (b::ds) H=onDfr none (fun t=>cond t none (opt none (zAN ds) (H.set b (.dfr true)))) (H.get b):=rfl
theorem leaves_rel{fn:Func}{tmps:Array Value}{R:Ending→World→Prop}:∀{ds:List Id} {dl:List Deferred} {H H':CH} {w:World},DfR φ ds dl→Rel P φ H w→zAN ds H=some H'→
  (∀w',Rel P φ H' w'→Ext φ H w φ H' w'→∃v,(results fn tmps).run P w'=.ok v w'∧R (.returned v) w')→LeavesInM Fence.wide 0 P fn tmps R dl .returning w:=by
 intro ds
 induction ds with
 |nil=>
  intro dl H H' w hd h hr hq
  cases hd
  cases(show some H=some H' from hr)
  obtain⟨v,h1,h2⟩:=hq w h (.refl _ _ _)
  exact⟨v,h1,h2⟩
 |cons b ds ih=>
  intro dl H H' w hd h hr hq
  cases hd with
  |cons _ k _ l hk hl=>
   rw[zHL]at hr
   obtain⟨x,hx,hbl⟩:=h.blk b k hk
   rw[hx]at hr
   cases x with
   |dfr t=>
    obtain⟨ht,h1⟩:=zAo (no:=none) (show cond t none (opt none (zAN ds) (H.set b (.dfr true)))=some H' from hr) (by simp)
    subst ht
    obtain⟨H₁,h2,h3⟩:=zP (no:=none) h1 (by simp)
    have hbl:w.heap[k.r]? =some (.deferred (some [])):=hbl
    obtain⟨q1,q2⟩:=Rel.setObj (y:=.dfr true) (o:=.deferred none) h hk hx trivial trivial h2 rfl
    refine⟨by simp,.inl ⟨k.r,_,rfl,?_,ih hl q1 h3 (fun w' g1 g2=>hq w' g1 (q2.trans h g2))⟩⟩
    have hgo:(getObj k.r).run P w=.ok (.deferred (some [])) w:=by simp[getObj,Sem.run,hbl]
    simp only[Instr.takeDeferred,Sem.run_bind,hgo,Result.andThen_ok,zDQ (P:=P) (o':=.deferred none) hbl (by simp),Sem.run_pure]
   |_=>cases hr
theorem bodyOf_some{f:FuncId}{n:Nat}{c:Code}{rs:List ResultVar}(h:bodyOf P f=some (n,c,rs)):∃fn,P.funcs[f]? =some fn∧fn.body=some c∧fn.ntmps=n∧fn.results.toList=rs∧
  n ≤ 1024 ∧ rs.all (okRes n) = true ∧ (fn.name == "runtime.NumGoroutine") = false ∧ yh P n c = true := by
 unfold bodyOf at h
 split at h
 ·cases h
 ·rename_i fn hf
  split at h
  ·cases h
  ·rename_i b hb
   split at h
   ·rename_i hok
    cases h
    unfold okFn at hok
    rw[hb]at hok
    simp only[Bool.and_eq_true,Bool.not_eq_true']at hok
    obtain⟨⟨⟨h1,h2⟩,h3⟩,h4⟩:=hok
    exact⟨fn,hf,hb,rfl,rfl,Nat.le_of_ble_eq_true h1,h2,h3,h4⟩
   ·cases h
theorem zGZ(hD:zo P E)(h:Rel P φ H w){f:FuncId}{args:V}{vs:List Value}(ha:LR φ args vs){br:Nat×Code×List ResultVar}(hb:bodyOf P f=some br)
  (hr:yG P E f args H br=.ok v H'):Texted P f∧CallsIn Fence.wide 0 P f vs.toArray w (Back P φ H w v H'):=by
 obtain⟨n,c,rs⟩:=br
 obtain⟨fn,h1,h2,h3,h4,h5,h6,h7,h8⟩:=bodyOf_some hb
 refine⟨⟨fn,c,h1,h2,h7⟩,?_⟩
 obtain⟨hle,hr⟩:=zH (show cond (Nat.ble (lenV args 0) n) (zCK P rs (E.code c (TT.ofV args 0 .leaf) [] none f H)) R.no=.ok v H' from hr) R.ok_ne
 have hle:vs.length≤n:=by
  have:=Nat.le_of_ble_eq_true hle
  rw[zAR,LR.len ha]at this;simpa using this
 obtain⟨ex,tm₁,ds₁,H₁,g1,g2⟩:=RC.inv hr R.ok_ne
 have hfr:=frame_rel ha hle h5
 rw[←h3]at hfr
 have hsz:(vs.toArray++Array.replicate (fn.ntmps - vs.toArray.size) Go.undef).size=n:=by simp;omega
 refine callsIn_of_wp_marks h1 h2 trivial (Go.wpIn_mono (hD (a:={tmps:=vs.toArray++Array.replicate (fn.ntmps - vs.toArray.size) Go.undef,defers:=[]}) (r:=none) h hfr .nil (show RoR φ none none from rfl) (by show yh P (vs.toArray++Array.replicate (fn.ntmps - vs.toArray.size) Go.undef).size c=true;rw[hsz];exact h8) g1) ?_)
 rintro e a₁ w₁ ⟨rfl,φ₁,b1,b2,b3,b4,b5⟩
 have fin:zFE P rs tm₁ ds₁ H₁=.ok v H'→LeavesInM Fence.wide 0 P fn a₁.tmps (Back P φ H w v H') a₁.defers .returning w₁:=by
  intro hf
  obtain⟨H₂,k1,k2⟩:=zP hf R.ok_ne
  obtain⟨k3,rfl⟩:=yZ k2
  refine leaves_rel b5 b1 k1 (fun w' q1 q2=>?_)
  have hsz1:a₁.tmps.size=n:=b4.trans hsz
  obtain⟨x,m1,m2⟩:=results_rel q1 (fn:=fn) b3 (by rw[h4,hsz1];exact h6) (by rw[h4];exact k3)
  exact⟨x,m1,x,φ₁,rfl,q1,b2.trans h q2,m2⟩
 cases ex with
 |normal=>exact fin g2
 |ret=>exact fin g2
 |exit i=>cases g2
 |goto i=>cases g2
end Vam
namespace Vam
open Go
variable {P:Program}{φ:Phi}{H H':CH}{w:World}{v:V}{E:Ev}
theorem onFuncOnly_ok{α:Type}{no r:α}{f:Nat→V→V→α}{v:V}(h:zHa no f (fun _=>no) v=r)(hr:r≠no):∃g a b,v=.func g a b∧f g a b=r:=by
 cases v<;>first|exact⟨_,_,_,rfl,h⟩|exact absurd h.symm hr
theorem zFP(hC:yi P E)(hD:zo P E)(h:Rel P φ H w){tm:TT}{a:Act}(htm:TmR φ tm a.tmps){ds:List Id}(hds:DfR φ ds a.defers){ro:Option Id}{r:Option Nat}(hro:RoR φ ro r)
  {f:Operand} {ps:Array Tmp} {x y:Code} (hok:yh P a.tmps.size (.rangeFunc f ps x y)=true) {dblk:Id} {kd:Loc} (hd:φ dblk=some kd) {fn:FuncId} {ex:Ex} {tm':TT} {ds':List Id}
  (hr:zCb E (zG tm f) ps x y dblk tm ds ro fn H=.ok ex tm' ds' H') (gn:FuncId):
  ∃(l:Nat) (w₁:World) (d:Deferred) (g:FuncId) (args:Array Value),
   (newObj (.loop {state:=.ready,pending:=none,fn:=gn,tmps:=a.tmps,params:=ps,assign:=x,body:=y,defers:=kd.r})).run P w=.ok l w₁∧
   (resolve a.eval (rangeCall f l) 0).run P w₁=.ok d w₁∧(invoke d.target d.args).run P w₁=.ok (.enter g args) w₁∧
   CallsIn Fence.wide 0 P g args w₁ (rangePost (wU r) 0 P l (After P φ H w ex tm' ds' H' a.tmps.size) a):=by
 obtain⟨⟨⟨ok1,ok2⟩,ok3⟩,ok4⟩:((okO a.tmps.size f=true∧ps.toList.all (fun t=>Nat.blt t a.tmps.size)=true)∧yh P a.tmps.size x=true)∧yh P a.tmps.size y=true:=by
  have:(okO a.tmps.size f&&ps.toList.all (fun t=>Nat.blt t a.tmps.size)&&yh P a.tmps.size x&&yh P a.tmps.size y)=true:=hok
  simpa only[Bool.and_eq_true]using this
 obtain⟨H₁,e1,e2,e3,e4,e5⟩:=wK hr RC.ok_ne h.nok
 have hnone:=h.none_at_n e2
 have hle:=Phi.le_with (⟨w.heap.size,0,0⟩:Loc) hnone
 obtain⟨r1,r2⟩:=Rel.alloc (o:=.loop {state:=.ready,pending:=none,fn:=gn,tmps:=a.tmps,params:=ps,assign:=x,body:=y,defers:=kd.r}) (m:=0) h e2 e3 e4 e5
  ⟨a.tmps,kd,gn,hle _ _ hd,by simp,htm.mono hle,ok3,ok4,fun t ht=>yu (List.all_eq_true.1 ok2 t ht),fun c hc=>by cases hc⟩
 generalize hφ:φ.with H.n ⟨w.heap.size,0,0⟩=φ₁ at*
 have hl:φ₁ H.n=some ⟨w.heap.size,0,0⟩:=by rw[←hφ];exact Phi.with_self φ H.n _
 have hf:=zAX htm ok1
 unfold endLoop at e1
 split at e1
 ·cases e1
 ·rename_i u H₂ hcall
  obtain⟨g,first,cap,e6,hcall⟩:=onFuncOnly_ok hcall R.ok_ne
  rw[e6]at hf
  generalize hv:a.eval f=fv at hf
  cases hf with
  |func _ _ _ A B hA hB=>
   have hargs:LR φ₁ (appV first (appV (.cons (.yield H.n) .nil) cap)) (A.toList++([Value.func (.yield w.heap.size) #[] #[]]++B.toList)):=
    LR.app (hA.mono hle) (LR.app (.cons _ _ _ _ (.yield _ _ hl) .nil) (hB.mono hle))
   obtain⟨t1,t2⟩:=hC r1 hargs hcall
   have e7:(A.toList++([Value.func (.yield w.heap.size) #[] #[]]++B.toList)).toArray=A++ #[Value.func (.yield w.heap.size) #[] #[]]++B:=by
    apply Array.ext';simp
   rw[e7]at t2
   refine⟨w.heap.size,_,{target:=.fn (.func g) B,args:=A++ #[Value.func (.yield w.heap.size) #[] #[]]},g,A++ #[Value.func (.yield w.heap.size) #[] #[]]++B,rfl,?_,?_,t2.mono ?_⟩
   ·have hy:a.eval (.const (.func (.yield w.heap.size) #[] #[]))=.func (.yield w.heap.size) #[] #[]:=rfl
    simp[resolve,hv,Deferred.ofValue,hy]
   ·simp only[invoke];exact zCw t1
   ·rintro e w₃ ⟨xv,φ₂,rfl,b1,b2,b3⟩
    split at e1
    ·rename_i st pe fn' tm₂ ps₂ x₂ y₂ d₂ hg
     have hl2:=b2.le _ _ hl
     have hext:Ext φ H w φ₂ H₂ w₃:=r2.trans h b2
     have hpe:=(zAk b1 hl2 hg).choose_spec.choose_spec.choose_spec.2.2.2.2.2.2.2
     split at e1
     ·cases e1
     ·rename_i hst
      split at e1
      ·obtain⟨H₃,hs,e8⟩:=zP e1 RC.ok_ne
       cases e8
       obtain⟨w₄,g1,g2,g3⟩:=zGz b1 hl2 (fun hb=>hst hb) hg hs
       exact⟨none,w₄,g1,rfl,φ₂,g2,hext.trans h g3,htm.mono hext.le,rfl,hds.mono hext.le⟩
      ·rename_i c
       obtain⟨H₃,hs,e8⟩:=zP e1 RC.ok_ne
       obtain⟨w₄,g1,g2,g3⟩:=zGz b1 hl2 (fun hb=>hst hb) hg hs
       refine⟨some c,w₄,g1,?_⟩
       refine Go.wpIn_mono (hD g2 (htm.mono hext.le) (hds.mono hext.le) (hro.mono hext.le) (hpe c rfl _) e8) (fun e a' w' q=>?_)
       exact After.base h (hext.trans h g3) q
    ·cases e1
theorem range_sound(hC:yi P E)(hD:zo P E)(h:Rel P φ H w){tm:TT}{a:Act}(htm:TmR φ tm a.tmps){ds:List Id}(hds:DfR φ ds a.defers){ro:Option Id}{r:Option Nat}(hro:RoR φ ro r)
  {f:Operand} {ps:Array Tmp} {x y:Code} (hok:yh P a.tmps.size (.rangeFunc f ps x y)=true) {fn:FuncId} {ex:Ex} {tm':TT} {ds':List Id}
  (hr:zFW E (zG tm f) ps x y tm ds ro fn H=.ok ex tm' ds' H'):(Code.rangeFunc f ps x y).wpIn (wU r) 0 P (After P φ H w ex tm' ds' H' a.tmps.size) a w:=by
 refine wpIn_rangeFunc (fun gn _=>?_)
 cases ro with
 |some l=>
  obtain⟨k,hl,rfl⟩:=hro
  unfold zFW at hr
  simp only at hr
  split at hr
  ·rename_i s pe fn' tm₀ ps₀ x₀ y₀ d hg
   obtain⟨tmps,kd,fn'',h1,h2,h3,_⟩:=zAk h hl hg
   obtain⟨l',w₁,d',g,args,q1,q2,q3,q4⟩:=zFP hC hD h htm hds (ro:=some l) (r:=some k.r) ⟨k,hl,rfl⟩ hok h1 hr gn
   refine⟨l',[],w₁,d',w₁,g,args,w₁,?_,q2,fun _ _=>trivial,q3,fun hd=>(by cases hd),callsAt (some k.r) q4⟩
   simpa[Instr.enterLoop,h3]using q1
  ·cases hr
 |none=>
  obtain rfl:r=none:=hro
  obtain⟨H₁,e1,e2,e3,e4,e5⟩:=wK (show alloc RC.no H (.dfr false) (fun n H=>zCb E (zG tm f) ps x y n tm (n::ds) none fn H)=.ok ex tm' ds' H' from hr) RC.ok_ne h.nok
  have hle:=Phi.le_with (⟨w.heap.size,0,0⟩:Loc) (h.none_at_n e2)
  obtain⟨r1,r2⟩:=Rel.alloc (o:=.deferred (some [])) (m:=0) h e2 e3 e4 e5 rfl
  have hself:=Phi.with_self φ H.n ⟨w.heap.size,0,0⟩
  have hds1:DfR (φ.with H.n ⟨w.heap.size,0,0⟩) (H.n::ds) ({target:=.collected w.heap.size,args:= #[]}::a.defers):=.cons _ _ _ _ hself (hds.mono hle)
  obtain⟨l',w₁,d',g,args,q1,q2,q3,q4⟩:=zFP (a:={a with defers:={target:=.collected w.heap.size,args:= #[]}::a.defers}) hC hD r1 (htm.mono hle) hds1 (ro:=none) (r:=none) rfl hok hself e1 gn
  refine⟨l',[{target:=.collected w.heap.size,args:= #[]}],w₁,d',w₁,g,args,w₁,?_,q2,fun _ _=>trivial,q3,fun hd=>(by cases hd),callsAt none (q4.mono ?_)⟩
  ·simp at q1
   simp[Instr.enterLoop]
   exact⟨q1.1,q1.2⟩
  ·intro e w₃ hp
   cases e with
   |returned u=>
    obtain⟨jump,w₄,g1,g2⟩:=hp
    refine⟨jump,w₄,g1,?_⟩
    cases jump with
    |none=>exact After.base h r2 g2
    |some c=>exact Go.wpIn_mono g2 (fun e a' w' q=>After.base h r2 q)
   |panicked ch=>exact After.base h r2 hp
   |outgrown=>
    obtain⟨a₀,w₀,q⟩:=hp
    exact⟨a₀,w₀,After.base h r2 q⟩
end Vam
namespace Vam
open Go
variable {P:Program}{φ:Phi}{H H':CH}{w:World}{v:V}{E:Ev}
def SoundPure(wy:Bool)(P:Program)(E:Ev):Prop:=∀{f:FuncId} {args:V} {vs:List Value} {br:Nat×Code×List ResultVar} {φ:Phi} {H:CH} {w:World} {v:V} {H':CH},Rel P φ H w→LR φ args vs→
 bodyOf P f=some br→pureFn P f=true→yc wy P E f args H br=.ok v H'→Texted P f∧CallsIn Fence.wide 0 P f vs.toArray w (Back P φ H w v H')
end Vam
