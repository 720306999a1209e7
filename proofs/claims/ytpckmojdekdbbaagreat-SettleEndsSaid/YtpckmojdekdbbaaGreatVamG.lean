import Derived.Test.YtpckmojdekdbbaaGreatVamF
set_option linter.unusedVariables false
set_option linter.unusedSimpArgs false
namespace Vam
open Go
variable {P:Program}{φ:Phi}{H H':CH}{w:World}{v:V}{E:Ev}
def NoQ:Exit→Act→World→Prop:=fun _ _ _=>False
theorem zGM{o:Oper}{a:Act}{next:Act→World→Prop}{r:Option Nat}{x:Result Next}(h:o.uponIn (wU r) 0 P a next NoQ x):∃a' w',next a' w':=by
 cases x with
 |ok y w'=>
  cases y with
  |value v=>exact⟨_,_,h⟩
  |skip=>exact⟨_,_,h⟩
  |defer d=>exact⟨_,_,h⟩
  |enter f args=>
   obtain⟨_,_,hc⟩:=h
   obtain⟨e,w'',_,hr,_⟩:=hc [] (room_wide _)
   cases e with
   |returned v=>exact⟨_,_,hr⟩
   |panicked c=>exact hr.elim
   |outgrown=>obtain⟨_,_,hf⟩:=(show LetsOut NoQ from hr);exact hf.elim
  |row row args=>
   obtain⟨_,hc⟩:=h
   obtain⟨v,w'',hr,_⟩:=hc default [] (room_wide _)
   exact⟨_,_,hr⟩
  |round l f tmps x y=>
   obtain⟨_,_,hc⟩:=h
   obtain⟨e,w'',hr,_⟩:=hc default [] (room_wide _)
   cases e with
   |returned v=>exact⟨_,_,hr⟩
   |panicked c=>exact hr.elim
   |outgrown=>obtain⟨_,_,hf⟩:=(show LetsOut NoQ from hr);exact hf.elim
  |_=>exact h.elim
 |halt x w'=>
  cases x<;>exact h.elim
theorem wpOp_exists{ops:Array Oper}{i:Nat}{a:Act}{K:Act→World→Prop}{r:Option Nat}(h:wpOpIn (wU r) 0 P ops NoQ i K a w):∃a' w',K a' w':=by
 unfold wpOpIn at h
 split at h
 ·exact⟨_,_,h⟩
 ·split at h
  ·exact zGM h.2
  ·exact⟨_,_,h.2⟩
theorem zDX{tm tm':TT}{o:Operand}(h:∀t,o=.tmp t→tm.get t=tm'.get t):zG tm o=zG tm' o:=by
 cases o with
 |tmp t=>exact h t rfl
 |_=>rfl
theorem zDV{o:Op}{t:Nat}:t∈tmpsOf o↔Operand.tmp t∈o.operands:=by
 unfold tmpsOf
 rw[List.mem_filterMap]
 constructor
 ·rintro⟨x,hx,h⟩
  cases x<;>first|(cases h;simpa using hx)|cases h
 ·intro h
  exact⟨.tmp t,by simpa using h,rfl⟩
theorem zFI{tm tm':TT}{l:List Operand}(h:∀t,Operand.tmp t∈l→tm.get t=tm'.get t):yY tm l=yY tm' l:=by
 induction l with
 |nil=>rfl
 |cons o l ih=>
  show V.cons (zG tm o) (yY tm l)=V.cons (zG tm' o) (yY tm' l)
  rw[zDX (fun t ht=>h t (by simp[ht])),ih (fun t ht=>h t (by simp[ht]))]
theorem zBh{tm tm':TT}{o:Option Operand}(h:∀t,Operand.tmp t∈o.toList→tm.get t=tm'.get t):zd tm o=zd tm' o:=by
 cases o with
 |none=>rfl
 |some x=>
  show some (zG tm x)=some (zG tm' x)
  rw[zDX (fun t ht=>h t (by simp[ht]))]
theorem zDh{tm tm':TT}{l:List (Nat×Operand)}(h:∀t,Operand.tmp t∈l.map (·.2)→tm.get t=tm'.get t):zW tm l=zW tm' l:=by
 induction l with
 |nil=>rfl
 |cons p l ih=>
  show(p.1,zG tm p.2)::zW tm l=(p.1,zG tm' p.2)::zW tm' l
  rw[zDX (fun t ht=>h t (by simp[ht])),ih (fun t ht=>h t (by simp only[List.map_cons,List.mem_cons];exact .inr ht))]
theorem evOp_same{tm tm':TT}{o:Op}(h:∀t∈tmpsOf o,tm.get t=tm'.get t):evOp P E tm H o=evOp P E tm' H o:=by
 have hm:∀t,Operand.tmp t∈o.operands→tm.get t=tm'.get t:=fun t ht=>h t (zDV.2 ht)
 have hx:∀x:Operand,x∈o.operands→zG tm x=zG tm' x:=fun x hx=>zDX (fun t ht=>hm t (ht ▸ hx))
 cases o with
 |move x|assign x=>show R.ok (zG tm x) H=R.ok (zG tm' x) H;rw[hx x (by simp[Op.operands])]
 |pick c x y=>
  show oPick H (zG tm c) (zG tm x) (zG tm y)=oPick H (zG tm' c) (zG tm' x) (zG tm' y)
  rw[hx c (by simp[Op.operands]),hx x (by simp[Op.operands]),hx y (by simp[Op.operands])]
 |box e x=>show newB H e (zBF (zG tm x))=newB H e (zBF (zG tm' x));rw[hx x (by simp[Op.operands])]
 |build t ps=>
  show zET P t (zW tm ps.toList) H=zET P t (zW tm' ps.toList) H
  rw[zDh (fun t ht=>hm t (by simpa[Op.operands]using ht))]
 |buildSlice t n ps=>
  show ze P t n (zW tm ps.toList) H=ze P t n (zW tm' ps.toList) H
  rw[zDh (fun t ht=>hm t (by simpa[Op.operands]using ht))]
 |insert t m k x|mapUpdate t m k x=>
  show zEK (wV P t H (zG tm m) (zG tm k) (zG tm x))=zEK (wV P t H (zG tm' m) (zG tm' k) (zG tm' x))
  rw[hx m (by simp[Op.operands]),hx k (by simp[Op.operands]),hx x (by simp[Op.operands])]
 |load t x=>show zAD .no (zES P t H) (zG tm x)=zAD .no (zES P t H) (zG tm' x);rw[hx x (by simp[Op.operands])]
 |store t x y=>
  show zAD .no (zGg P t (zG tm y) H) (zG tm x)=zAD .no (zGg P t (zG tm' y) H) (zG tm' x)
  rw[hx x (by simp[Op.operands]),hx y (by simp[Op.operands])]
 |nilCheck x=>show zCA (zG tm x) H=zCA (zG tm' x) H;rw[hx x (by simp[Op.operands])]
 |binOp op t x y u=>
  show zt H (binV P t op (zG tm x) (zG tm y))=zt H (binV P t op (zG tm' x) (zG tm' y))
  rw[hx x (by simp[Op.operands]),hx y (by simp[Op.operands])]
 |unOp op t x=>show zt H (unV op (zG tm x))=zt H (unV op (zG tm' x));rw[hx x (by simp[Op.operands])]
 |convert s d x=>show zCU P s d (zG tm x) H=zCU P s d (zG tm' x) H;rw[hx x (by simp[Op.operands])]
 |sliceToArrayPointer d x=>show zGh P d (zG tm x) H=zGh P d (zG tm' x) H;rw[hx x (by simp[Op.operands])]
 |makeFunc fn xs ys=>
  cases fn with
  |func f=>
   show R.ok (.func f (yY tm xs.toList) (yY tm ys.toList)) H=R.ok (.func f (yY tm' xs.toList) (yY tm' ys.toList)) H
   rw[zFI (l:=xs.toList) (fun t ht=>hm t (by simp only[Op.operands,Array.mem_append];exact .inl (by simpa using ht))),
    zFI (l:=ys.toList) (fun t ht=>hm t (by simp only[Op.operands,Array.mem_append];exact .inr (by simpa using ht)))]
  |_=>rfl
 |makeMap t r=>
  show Ty.rec (motive:=fun _=>R) (fun _=>.no) (fun _ _=>.no) (fun _=>.no) (fun _ _=>zCS (zd tm r) H) .no (fun _=>.no) .no .no .no .no (tyOf P t)=Ty.rec (motive:=fun _=>R) (fun _=>.no) (fun _ _=>.no) (fun _=>.no) (fun _ _=>zCS (zd tm' r) H) .no (fun _=>.no) .no .no .no .no (tyOf P t)
  rw[zBh (fun t ht=>hm t (by simpa[Op.operands]using ht))]
 |makeSlice t l c=>
  show zCB P t (zG tm l) (zG tm c) H=zCB P t (zG tm' l) (zG tm' c) H
  rw[hx l (by simp[Op.operands]),hx c (by simp[Op.operands])]
 |slice t x lo hi mx=>
  show zt H (zBv P t (zG tm x) (zd tm lo) (zd tm hi) (zd tm mx))=zt H (zBv P t (zG tm' x) (zd tm' lo) (zd tm' hi) (zd tm' mx))
  rw[hx x (by simp[Op.operands]),zBh (o:=lo) (fun t ht=>hm t (by cases lo<;>simp_all[Op.operands])),zBh (o:=hi) (fun t ht=>hm t (by cases hi<;>simp_all[Op.operands])),
   zBh (o:=mx) (fun t ht=>hm t (by cases mx<;>simp_all[Op.operands]))]
 |fieldAddr t x f=>show zAG (zG tm x) H (zc P t f)=zAG (zG tm' x) H (zc P t f);rw[hx x (by simp[Op.operands])]
 |field t x f=>show zHd P (zG tm x) H (zc P t f)=zHd P (zG tm' x) H (zc P t f);rw[hx x (by simp[Op.operands])]
 |indexAddr t x ix=>
  show ym P t (zG tm x) (zG tm ix) H=ym P t (zG tm' x) (zG tm' ix) H
  rw[hx x (by simp[Op.operands]),hx ix (by simp[Op.operands])]
 |index t x ix=>
  show zDf P t (zG tm x) (zG tm ix) H=zDf P t (zG tm' x) (zG tm' ix) H
  rw[hx x (by simp[Op.operands]),hx ix (by simp[Op.operands])]
 |lookup t x ix ok=>
  show zt H (wn P H t (zG tm x) (zG tm ix) ok)=zt H (wn P H t (zG tm' x) (zG tm' ix) ok)
  rw[hx x (by simp[Op.operands]),hx ix (by simp[Op.operands])]
 |extract t i=>show zCT H i (zG tm t)=zCT H i (zG tm' t);rw[hx t (by simp[Op.operands])]
 |call c=>
  obtain⟨callee,args,ts⟩:=c
  show zGE P E tm args.toList ts.toList H callee=zGE P E tm' args.toList ts.toList H callee
  have ha:yY tm args.toList=yY tm' args.toList:=zFI (fun t ht=>hm t (by simp only[Op.operands,Call.operands,Array.mem_append];exact .inr (by simpa using ht)))
  cases callee with
  |value f=>
   cases f with
   |tmp t=>
    show zGr E (tm.get t) (yY tm args.toList) H=zGr E (tm'.get t) (yY tm' args.toList) H
    rw[ha,hm t (by simp[Op.operands,Call.operands])]
   |func g=>
    show E.call g (yY tm args.toList) H=E.call g (yY tm' args.toList) H
    rw[ha]
   |_=>rfl
  |invoke _ _=>rfl
  |builtin b=>
   show wZ P b ts.toList (yY tm args.toList) H=wZ P b ts.toList (yY tm' args.toList) H
   rw[ha]
 |_=>rfl
theorem RowV.set_comm(x y:V)(d e:D)(h:d≠e)(t:RowV):RowV.set d x (RowV.set e y t)=RowV.set e y (RowV.set d x t):=by
 cases t<;>cases d<;>cases e<;>first|rfl|exact absurd rfl h
theorem RowW.set_comm(x y:RowV)(d e:D)(h:d≠e)(t:RowW):RowW.set d x (RowW.set e y t)=RowW.set e y (RowW.set d x t):=by
 cases t<;>cases d<;>cases e<;>first|rfl|exact absurd rfl h
theorem RowW.set_set(x y:RowV)(d:D)(t:RowW):RowW.set d x (RowW.set d y t)=RowW.set d x t:=by
 cases t<;>cases d<;>rfl
theorem Tr1.set_comm(x y:(Option Blk))(d e:D)(h:d≠e)(t:Tr1):Tr1.set d x (Tr1.set e y t)=Tr1.set e y (Tr1.set d x t):=by
 cases t<;>cases d<;>cases e<;>first|rfl|exact absurd rfl h
theorem Tr2.set_comm(x y:Tr1)(d e:D)(h:d≠e)(t:Tr2):Tr2.set d x (Tr2.set e y t)=Tr2.set e y (Tr2.set d x t):=by
 cases t<;>cases d<;>cases e<;>first|rfl|exact absurd rfl h
theorem Tr2.set_set(x y:Tr1)(d:D)(t:Tr2):Tr2.set d x (Tr2.set d y t)=Tr2.set d x t:=by
 cases t<;>cases d<;>rfl
theorem Tr3.set_comm(x y:Tr2)(d e:D)(h:d≠e)(t:Tr3):Tr3.set d x (Tr3.set e y t)=Tr3.set e y (Tr3.set d x t):=by
 cases t<;>cases d<;>cases e<;>first|rfl|exact absurd rfl h
theorem Tr3.set_set(x y:Tr2)(d:D)(t:Tr3):Tr3.set d x (Tr3.set d y t)=Tr3.set d x t:=by
 cases t<;>cases d<;>rfl
theorem Tr4.set_comm(x y:Tr3)(d e:D)(h:d≠e)(t:Tr4):Tr4.set d x (Tr4.set e y t)=Tr4.set e y (Tr4.set d x t):=by
 cases t<;>cases d<;>cases e<;>first|rfl|exact absurd rfl h
theorem Tr4.set_set(x y:Tr3)(d:D)(t:Tr4):Tr4.set d x (Tr4.set d y t)=Tr4.set d x t:=by
 cases t<;>cases d<;>rfl
theorem Tr.set_comm(x y:Tr4)(d e:Nat)(h:d≠e)(t:Tr):Tr.set d x (Tr.set e y t)=Tr.set e y (Tr.set d x t):=by
 induction d generalizing e t with
 |zero=>
  cases e with
  |zero=>exact absurd rfl h
  |succ e=>cases t<;>rfl
 |succ d ih=>
  cases e with
  |zero=>cases t<;>rfl
  |succ e=>
   cases t with
   |leaf=>exact congrArg (Tr.node .leaf) (ih e (by omega) .leaf)
   |node z r=>exact congrArg (Tr.node z) (ih e (by omega) r)
theorem Tr.set_set(x y:Tr4)(d:Nat)(t:Tr):Tr.set d x (Tr.set d y t)=Tr.set d x t:=by
 induction d generalizing t with
 |zero=>cases t<;>rfl
 |succ d ih=>
  cases t with
  |leaf=>exact congrArg (Tr.node .leaf) (ih .leaf)
  |node z r=>exact congrArg (Tr.node z) (ih r)
theorem RR.set_comm(x y:V)(t:RowW)(a b c d:D)(h: ¬ (a=c∧b=d)):Vam.RR.set x (Vam.RR.set y t c d) a b=Vam.RR.set y (Vam.RR.set x t a b) c d:=by
 unfold Vam.RR.set
 by_cases ha:a=c
 ·subst ha
  rw[RowW.get_set,if_pos rfl,RowW.get_set,if_pos rfl,RowW.set_set,RowW.set_set,RowV.set_comm]
  rintro rfl;exact h ⟨rfl,rfl⟩
 ·rw[RowW.get_set,if_neg ha,RowW.get_set,if_neg (Ne.symm ha),RowW.set_comm _ _ _ _ ha]
theorem TT.put_put(q:Q4)(r s:RowW)(t:TT):TT.put q r (TT.put q s t)=TT.put q r t:=by
 cases t;cases q<;>rfl
theorem TT.put_comm(q q':Q4)(h:q≠q')(r s:RowW)(t:TT):TT.put q r (TT.put q' s t)=TT.put q' s (TT.put q r t):=by
 cases t;cases q<;>cases q'<;>first|rfl|exact absurd rfl h
theorem TT.set_comm(x y:V)(t:TT){i j:Nat}(hi:i<1024)(hj:j<1024)(h:i≠j):TT.set x (TT.set y t j) i=TT.set y (TT.set x t i) j:=by
 simp only[TT.set_eq,TT.part_put]
 by_cases hq:Q4.of (i / 256)=Q4.of (j / 256)
 ·rw[hq]
  simp only[if_true,TT.put_put]
  rw[RR.set_comm]
  rintro hd
  exact h (slot_inj hi hj ⟨hq,hd⟩)
 ·rw[if_neg (Ne.symm hq),if_neg hq,TT.put_comm _ _ hq]
theorem setT_comm(x y:V)(t:TT){d e:Option Nat}(hd:∀i,d=some i→i<1024)(he:∀i,e=some i→i<1024)(h:∀i,d=some i→e≠some i):setT (setT t e y) d x=setT (setT t d x) e y:=by
 cases d with
 |none=>rfl
 |some i=>
  cases e with
  |none=>rfl
  |some j=>exact TT.set_comm x y t (hd i rfl) (he j rfl) (fun hij=>h i rfl (by rw[hij]))
theorem zFs(x:V)(t:TT){d:Option Nat}{j:Nat}(hd:∀i,d=some i→i<1024)(hj:j<1024)(h:d≠some j):(setT t d x).get j=t.get j:=by
 cases d with
 |none=>rfl
 |some i=>
  show(TT.set x t i).get j=_
  rw[TT.get_set _ _ _ _ (hd i rfl) hj,if_neg (fun hij=>h (by rw[hij]))]
end Vam
namespace Vam
open Go
variable {P:Program}{φ:Phi}{H H' K:CH}{w:World}{v:V}{E:Ev}
def Agree(φ:Phi)(H K:CH):Prop:=∀b k,φ b=some k→K.get b=H.get b
theorem Agree.symm(h:Agree φ H K):Agree φ K H:=fun b k hb=>(h b k hb).symm
theorem zGl{t:TypeId}{b:Id}{off:Nat}(h:K.get b=H.get b):zBB P t K b off=zBB P t H b off:=by
 unfold zBB zFf read1 zX;rw[h]
theorem zGj(ha:Agree φ H K){m:V}{mv:Value}(hm:VR φ m mv):mapEs K m=mapEs H m:=by
 cases hm with
 |map b k hb=>show zGe none (fun es _=>some es) (K.get b)=zGe none (fun es _=>some es) (H.get b);rw[ha b k hb]
 |_=>rfl
theorem lookupV_agree(ha:Agree φ H K){t:TypeId}{m k:V}{mv:Value}{ok:Bool}(hm:VR φ m mv):wn P K t m k ok=wn P H t m k ok:=by
 unfold wn;rw[zGj ha hm]
theorem lenB_agree(ha:Agree φ H K){t:TypeId}{m:V}{mv:Value}(hm:VR φ m mv):lenB P K t m=lenB P H t m:=by
 unfold lenB;rw[zGj ha hm]
theorem zBe{f g:V→MvK}(ih:∀{v:V} {x:Value},VR φ v x→f v=g v){vs:List Value}{l:V}(hl:LR φ l vs):yn f l=yn g l:=by
 induction vs generalizing l with
 |nil=>cases hl;rfl
 |cons x vs ihl=>
  cases hl with
  |cons y l _ _ h1 h2=>
   show inCons f y l (yn f l)=inCons g y l (yn g l)
   unfold inCons
   rw[ih h1,ihl h2]
theorem cells_LR(h:Rel P φ H w){b:Id}{k:Loc}(hb:φ b=some k){off n:Nat}{cells:V}(hr:zX H b off n=some cells):∃vs,LR φ cells vs:=by
 cases n with
 |zero=>cases(show some V.nil=some cells from hr);exact⟨[],.nil⟩
 |succ n=>
  obtain⟨cs,e,st,sh,arr,el,fr,h1,h2,h3,h4,us,h5,h6⟩:=h.cells hb (show yS none (rd off (n+1)) (H.get b)=some cells from hr)
  exact⟨_,(LR.take (n+1) (h5.drop off) h1).2.1⟩
theorem inV_agree(h:Rel P φ H w)(ha:Agree φ H K):∀(k:Nat) {v:V} {x:Value},VR φ v x→inV K k v=inV H k v:=by
 intro k
 induction k with
 |zero=>intro v x _;rfl
 |succ k ih=>
  intro v x hv
  cases hv with
  |agg l cs hl=>
   show(fun H o=>wt (yn (inV K k) l H o) (fun l H o=>.ok (.agg l) H o))=(fun G o=>wt (yn (inV H k) l G o) (fun l H o=>.ok (.agg l) H o))
   rw[zBe ih hl]
  |slice b off len cc sz cap kc hk hcap=>
   have hbw:=(h.wf b kc hk).1
   suffices hs:zAS K (inV K k) b off len cc sz=zAS H (inV H k) b off len cc sz by
    cases b with
    |over=>exact hbw.elim
    |mk _ _ _ _ _ _=>exact hs
   unfold zAS
   have hget:=ha b kc hk
   have hrd:zX K b off (Nat.mul len sz)=zX H b off (Nat.mul len sz):=by unfold zX;rw[hget]
   rw[hget,hrd]
   cases hc:zX H b off (Nat.mul len sz)with
   |none=>rfl
   |some cells=>
    obtain⟨vs,hl⟩:=cells_LR h hk hc
    funext G o
    show cond (within (H.get b) off (Nat.mul len sz)) (wt (yn (inV K k) cells G o) _) .no=cond (within (H.get b) off (Nat.mul len sz)) (wt (yn (inV H k) cells G o) _) .no
    rw[zBe ih hl]
  |func f a b A B hA hB=>rfl
  |_=>rfl
theorem zAI{r:Bk}{k:V→CH→List (Nat×Id)→Bk}{v:V}{G:CH}{m:List (Nat×Id)}(h:ye r k=.ok v G m):∃v₁ G₁ m₁,r=.ok v₁ G₁ m₁∧k v₁ G₁ m₁=.ok v G m:=by
 cases r with
 |no=>cases h
 |ok v₁ G₁ m₁=>exact⟨v₁,G₁,m₁,rfl,h⟩
def OutFlat(f:V→BkK):Prop:=∀{u:V} {K:CH} {m:List (Nat×Id)} {u':V} {K':CH} {m':List (Nat×Id)},f u K m=.ok u' K' m'→zAE u'=true→K'=K∧m'=m∧∀J n,f u J n=.ok u' J n
theorem zBb{f:V→BkK}(ih:OutFlat f):OutFlat (yR f):=by
 intro l
 induction l with
 |nil=>intro K m u' K' m' h hf;cases(show Bk.ok .nil K m=.ok u' K' m' from h);exact⟨rfl,rfl,fun J n=>rfl⟩
 |cons x l _ ihl=>
  intro K m u' K' m' h hf
  obtain⟨v₁,K₁,m₁,g1,g2⟩:=zAI (show ye (f x K m) (fun x H m=>ye (yR f l H m) (fun l H m=>.ok (.cons x l) H m))=.ok u' K' m' from h)
  obtain⟨l₂,K₂,m₂,g3,g4⟩:=zAI g2
  cases g4
  have hf:cond (zAE v₁) (zAE l₂) false=true:=hf
  cases hx:zAE v₁ with
  |false=>rw[hx]at hf;cases hf
  |true=>
   rw[hx]at hf
   obtain⟨rfl,rfl,q1⟩:=ih g1 hx
   obtain⟨rfl,rfl,q2⟩:=ihl g3 hf
   refine⟨rfl,rfl,fun J n=>?_⟩
   show ye (f x J n) (fun x H m=>ye (yR f l H m) (fun l H m=>.ok (.cons x l) H m))=_
   rw[q1]
   show ye (yR f l J n) (fun l H m=>.ok (.cons v₁ l) H m)=_
   rw[q2];rfl
 |_=>intro K m u' K' m' h;cases(show Bk.no=.ok u' K' m' from h)
theorem out_flat(G:CH)(os:List (Id×Nat)):∀k,OutFlat (outV G os k):=by
 intro k
 induction k with
 |zero=>intro u K m u' K' m' h;cases(show Bk.no=.ok u' K' m' from h)
 |succ k ih=>
  intro u K m u' K' m' h hf
  cases u with
  |bool b=>cases h;exact⟨rfl,rfl,fun J n=>rfl⟩
  |int kk n=>
   have e:∀J n',outV G os (k+1) (.int kk n) J n'=.ok (.int kk n) J n':=fun J n'=>by
    show zCk (fun n=>yw (.int kk n)) n J n'=_
    rw[zAy];rfl
   rw[e]at h;cases h;exact⟨rfl,rfl,e⟩
  |str s=>cases h;exact⟨rfl,rfl,fun J n=>rfl⟩
  |nils=>cases h;exact⟨rfl,rfl,fun J n=>rfl⟩
  |nilf=>cases h;cases hf
  |func f a b=>
   cases a<;>first|(cases h;done)|skip
   cases b<;>first|(cases h;done)|skip
   cases h;cases hf
  |agg l=>
   obtain⟨l₁,K₁,m₁,g1,g2⟩:=zAI (show ye (yR (outV G os k) l K m) (fun l H m=>.ok (.agg l) H m)=.ok u' K' m' from h)
   cases g2
   obtain⟨rfl,rfl,q⟩:=zBb (f:=outV G os k) @ih g1 hf
   exact⟨rfl,rfl,fun J n=>by show ye (yR (outV G os k) l J n) (fun l H m=>.ok (.agg l) H m)=_;rw[q];rfl⟩
  |tup l=>
   obtain⟨l₁,K₁,m₁,g1,g2⟩:=zAI (show ye (yR (outV G os k) l K m) (fun l H m=>.ok (.tup l) H m)=.ok u' K' m' from h)
   cases g2
   obtain⟨rfl,rfl,q⟩:=zBb (f:=outV G os k) @ih g1 hf
   exact⟨rfl,rfl,fun J n=>by show ye (yR (outV G os k) l J n) (fun l H m=>.ok (.tup l) H m)=_;rw[q];rfl⟩
  |slice b off len cc sz=>
   exfalso
   have h:zCz G os (outV G os k) b off len cc sz K m=.ok u' K' m':=by
    cases b with
    |over=>cases h;cases hf
    |mk _ _ _ _ _ _=>exact h
   unfold zCz at h
   cases hn:nthO os b.num with
   |some bo=>rw[hn]at h;cases h;cases hf
   |none=>
    rw[hn]at h
    have h:yS zAJ (zCg (outV G os k) b off len cc sz) (G.get b) K m=.ok u' K' m':=h
    have key:∀cs e st sh,zCg (outV G os k) b off len cc sz cs e st sh K m=.ok u' K' m'→False:=by
     intro cs e st sh h
     unfold zCg at h
     cases hm:zFg b.num m with
     |some n=>rw[hm]at h;cases h;cases hf
     |none=>
      rw[hm]at h
      obtain⟨_,h1⟩:=zH (show cond (Nat.beq st 0) _ Bk.no=.ok u' K' m' from h) Bk.ok_ne
      obtain⟨c₁,K₁,m₁,_,h2⟩:=zAI h1
      cases hm1:zFg b.num m₁ with
      |some id=>rw[hm1]at h2;cases h2
      |none=>
       rw[hm1]at h2
       have h2:alloc Bk.no K₁ (.cells c₁ e 0 []) (fun n H=>.ok (.slice n off len cc sz) H ((b.num,n)::m₁))=.ok u' K' m':=h2
       cases K₁ with
       |mk n f t=>
        cases n with
        |over=>cases h2
        |mk _ _ _ _ _ _=>cases h2;cases hf
    cases hg:G.get b with
    |none=>rw[hg]at h;cases h
    |some x=>
     rw[hg]at h
     cases x with
     |cells cs e st sh=>
      have h:(cond (Nat.beq st 2) zAJ (zCg (outV G os k) b off len cc sz cs e st sh)) K m=.ok u' K' m':=h
      cases hb:Nat.beq st 2 with
      |true=>rw[hb]at h;cases h
      |false=>rw[hb]at h;exact key cs e st sh h
     |arg cs=>exact key cs 0 1 [] h
     |_=>cases h
  |_=>cases h
theorem out_flatW(G:CH)(os:List (Id×Nat)):∀k,OutFlat (outW G os k):=by
 intro k
 induction k with
 |zero=>intro u K m u' K' m' h;cases(show Bk.no=.ok u' K' m' from h)
 |succ k ih=>
  intro u K m u' K' m' h hf
  cases u with
  |bool b=>cases h;exact⟨rfl,rfl,fun J n=>rfl⟩
  |int kk n=>
   have e:∀J n',outW G os (k+1) (.int kk n) J n'=.ok (.int kk n) J n':=fun J n'=>by
    show zCk (fun n=>yw (.int kk n)) n J n'=_
    rw[zAy];rfl
   rw[e]at h;cases h;exact⟨rfl,rfl,e⟩
  |str s=>cases h;exact⟨rfl,rfl,fun J n=>rfl⟩
  |nils=>cases h;exact⟨rfl,rfl,fun J n=>rfl⟩
  |nilf=>cases h;cases hf
  |func f a b=>
   cases a<;>first|(cases h;done)|skip
   cases b<;>first|(cases h;done)|skip
   cases h;cases hf
  |agg l=>
   obtain⟨l₁,K₁,m₁,g1,g2⟩:=zAI (show ye (yR (outW G os k) l K m) (fun l H m=>.ok (.agg l) H m)=.ok u' K' m' from h)
   cases g2
   obtain⟨rfl,rfl,q⟩:=zBb (f:=outW G os k) @ih g1 hf
   exact⟨rfl,rfl,fun J n=>by show ye (yR (outW G os k) l J n) (fun l H m=>.ok (.agg l) H m)=_;rw[q];rfl⟩
  |tup l=>
   obtain⟨l₁,K₁,m₁,g1,g2⟩:=zAI (show ye (yR (outW G os k) l K m) (fun l H m=>.ok (.tup l) H m)=.ok u' K' m' from h)
   cases g2
   obtain⟨rfl,rfl,q⟩:=zBb (f:=outW G os k) @ih g1 hf
   exact⟨rfl,rfl,fun J n=>by show ye (yR (outW G os k) l J n) (fun l H m=>.ok (.tup l) H m)=_;rw[q];rfl⟩
  |slice b off len cc sz=>
   exfalso
   have h:wN G os (outW G os k) b off len cc sz K m=.ok u' K' m':=by
    cases b with
    |over=>cases h;cases hf
    |mk _ _ _ _ _ _=>exact h
   unfold wN at h
   cases hn:nthO os b.num with
   |some bo=>rw[hn]at h;cases h;cases hf
   |none=>
    rw[hn]at h
    obtain⟨_,h1⟩:=zH (show cond (within (G.get b) off (Nat.mul len sz)) _ Bk.no=.ok u' K' m' from h) Bk.ok_ne
    obtain⟨cells,_,h2⟩:=zP h1 Bk.ok_ne
    obtain⟨c₁,K₁,m₁,_,h3⟩:=zAI h2
    cases K₁ with
    |mk n f t=>
     cases n with
     |over=>cases h3
     |mk _ _ _ _ _ _=>cases h3;cases hf
  |_=>cases h
def wl(P:Program)(E:Ev):Prop:=∀{f:FuncId} {args:V} {vs:List Value} {φ:Phi} {H K J:CH} {w:World} {v:V},pureFn P f=true→Rel P φ H w→LR φ args vs→Agree φ H K→
 E.call f args H=.ok v J→zAE v=true→J=H∧E.call f args K=.ok v K
def CallRead(P:Program)(ld:Bool)(c:Callee):Prop:=match c with
 | .builtin .len=>ld=true
 | .builtin .min=>ld=true
 | .builtin .max=>ld=true
 | .value (.func f)=>ld=false∧pureFn P f=true
 |_=>False
def zHH(P:Program)(ld:Bool)(o:Op):Prop:=match o with
 | .load .. =>ld=true
 | .lookup .. =>ld=true
 | .call c=>CallRead P ld c.callee
 |_=>False
theorem loose_read{o:Oper}{ld:Bool}(h:zAx P o=.read ld):zHH P ld o.op:=by
 unfold zAx at h
 unfold zHH
 cases ho:o.op with
 |load t x=>rw[ho]at h;cases h;rfl
 |lookup t x y ok=>rw[ho]at h;cases h;rfl
 |alloc e=>
  rw[ho]at h
  have h:(if(!tied o&&o.guard.isNone&&o.dst.isSome)=true then M0.pre else .quiet)=.read ld:=h
  split at h<;>cases h
 |makeSlice t l c=>
  rw[ho]at h
  cases l<;>cases c<;>first|(cases h;done)|skip
  have h:(if(!tied o&&o.guard.isNone&&o.dst.isSome)=true then M0.pre else .quiet)=.read ld:=h
  split at h<;>cases h
 |call c=>
  rw[ho]at h
  obtain⟨callee,args,ts⟩:=c
  have h:zCa P o.type callee=.read ld:=h
  unfold zCa at h
  show CallRead P ld callee
  cases callee with
  |builtin b=>cases b<;>first|(cases h;rfl)|cases h
  |invoke _ _=>cases h
  |value f=>
   cases f with
   |func g=>
    have h:(if(pureFn P g&&flatT P 10 o.type)=true then M0.read false else .quiet)=.read ld:=h
    split at h
    ·rename_i hp;cases h;exact⟨rfl,(Bool.and_eq_true_iff.1 hp).1⟩
    ·cases h
   |_=>cases h
 |_=>rw[ho]at h;cases h
theorem mode_read{ops:List Oper}{i:Nat}{o:Oper}{ld:Bool}(h:wa P ops i o=.read ld):zHH P ld o.op:=by
 unfold wa at h
 split at h
 ·exact loose_read h
 ·cases h
theorem zBz{o:Option V}{J:CH}(h:zt H o=.ok v J):o=some v:=by
 cases o with
 |none=>cases h
 |some x=>cases h;rfl
theorem zCx(hG:wl P E)(h:Rel P φ H w)(ha:Agree φ H K){tm:TT}{n:Nat}{tmps:Array Value}(htm:TmR φ tm tmps)(hn:n=tmps.size){o:Op}(hok:o.operands.toList.all (okO n)=true){ld:Bool}(hro:zHH P ld o){H':CH}
  (hr:zAa P E ld tm H o=.ok v H'):H'=H∧zAa P E ld tm K o=.ok v K:=by
 subst hn
 have hop:∀x∈o.operands,∃xv,VR φ (zG tm x) xv:=fun x hx=>⟨_,zAX (a:=⟨tmps,[]⟩) htm (List.all_eq_true.1 hok x (by simpa using hx))⟩
 have fin:∀{c:Bool} {J J':CH},(cond (cond ld true (zAE v)) (R.ok v J) .no=.ok v J')→cond ld true (zAE v)=true∧J'=J:=by
  intro c J J' q
  cases hq:cond ld true (zAE v)with
  |true=>rw[hq]at q;cases q;exact⟨rfl,rfl⟩
  |false=>rw[hq]at q;cases q
 have key:∀{x:V} {J:CH},evOp P E tm H o=.ok x J→cond ld true (zAE x)=true→∃J',evOp P E tm K o=.ok x J':=by
  intro x J q hfl
  cases o with
  |load t y=>
   obtain⟨b,off,e1,q1⟩:=wg (show zAD .no (zES P t H) (zG tm y)=.ok x J from q) R.ok_ne
   have q2:=zBz q1
   obtain⟨yv,hy⟩:=hop y (by simp[Op.operands])
   rw[e1]at hy
   refine⟨K,?_⟩
   show zAD .no (zES P t K) (zG tm y)=_
   rw[e1]
   show zt K (zBB P t K b off)=_
   cases hy with
   |ptr _ _ k hk=>rw[zGl (ha b k hk),q2];rfl
   |glob _=>rw[zGl (show K.get .over=H.get .over by cases K;cases H;rfl),q2];rfl
  |lookup t y z ok=>
   have q2:=zBz (show zt H (wn P H t (zG tm y) (zG tm z) ok)=.ok x J from q)
   obtain⟨yv,hy⟩:=hop y (by simp[Op.operands])
   refine⟨K,?_⟩
   show zt K (wn P K t (zG tm y) (zG tm z) ok)=_
   rw[lookupV_agree ha hy,q2];rfl
  |call c=>
   obtain⟨callee,args,ts⟩:=c
   have hargs:∃vs,LR φ (yY tm args.toList) vs:=⟨_,zBW (a:=⟨tmps,[]⟩) htm (by
    rw[List.all_eq_true];intro y hy;exact List.all_eq_true.1 hok y (by simp only[Op.operands,Call.operands,Array.toList_append,List.mem_append];exact .inr hy))⟩
   obtain⟨vs,hargs⟩:=hargs
   cases callee with
   |builtin b=>
    have q:wZ P b ts.toList (yY tm args.toList) H=.ok x J:=q
    cases b with
    |len=>
     unfold wZ at q
     refine⟨K,?_⟩
     show wZ P .len ts.toList (yY tm args.toList) K=_
     unfold wZ
     simp only at q ⊢
     split at q
     ·rename_i t hts
      rcases za q R.ok_ne with ⟨_,q1⟩|⟨y,l,e1,q1⟩
      ·cases q1
      ·rcases za q1 R.ok_ne with ⟨e2,q2⟩|⟨_,_,_,q2⟩
       ·have q3:=zBz q2
        rw[e1]at hargs ⊢
        obtain⟨yv,vs',rfl,hy,_⟩:=LR.inv_cons hargs
        subst e2
        show zt K (lenB P K t y)=_
        rw[lenB_agree ha hy,q3];rfl
       ·cases q2
     ·cases q
    |min=>
     rcases za (show zu .no .no (fun x l=>zt H (zCI minV l x)) (yY tm args.toList)=.ok x J from q) R.ok_ne with ⟨_,q1⟩|⟨y,l,e1,q1⟩
     ·cases q1
     ·have q3:=zBz q1
      refine⟨K,?_⟩
      show zu .no .no (fun x l=>zt K (zCI minV l x)) (yY tm args.toList)=_
      rw[e1];show zt K (zCI minV l y)=_;rw[q3];rfl
    |max=>
     rcases za (show zu .no .no (fun x l=>zt H (zCI maxV l x)) (yY tm args.toList)=.ok x J from q) R.ok_ne with ⟨_,q1⟩|⟨y,l,e1,q1⟩
     ·cases q1
     ·have q3:=zBz q1
      refine⟨K,?_⟩
      show zu .no .no (fun x l=>zt K (zCI maxV l x)) (yY tm args.toList)=_
      rw[e1];show zt K (zCI maxV l y)=_;rw[q3];rfl
    |_=>exact hro.elim
   |invoke _ _=>exact hro.elim
   |value f=>
    cases f with
    |func g=>
     obtain⟨rfl,hp⟩:ld=false∧pureFn P g=true:=hro
     exact⟨K,(hG hp h hargs ha (show E.call g (yY tm args.toList) H=.ok x J from q) hfl).2⟩
    |_=>exact hro.elim
  |_=>exact hro.elim
 unfold zAa at hr ⊢
 cases q:evOp P E tm H o with
 |no=>rw[q]at hr;cases hr
 |ok x J=>
  rw[q]at hr
  have hr:cond (cond ld true (zAE x)) (R.ok x H) .no=.ok v H':=hr
  cases hq:cond ld true (zAE x)with
  |false=>rw[hq]at hr;cases hr
  |true=>
   rw[hq]at hr
   cases hr
   obtain⟨J',q'⟩:=key q hq
   refine⟨rfl,?_⟩
   rw[q']
   show cond (cond ld true (zAE v)) (R.ok v K) .no=_
   rw[hq];rfl
theorem zGX(hG:wl P E)(h:Rel P φ H w){tm:TT}{tmps:Array Value}(htm:TmR φ tm tmps){o:Op}(hok:o.operands.toList.all (okO tmps.size)=true){ld:Bool}(hro:zHH P ld o){J:CH}
  (q:evOp P E tm H o=.ok v J) (hfl:cond ld true (zAE v)=true):J=H:=by
 cases o with
 |load t y=>
  obtain⟨b,off,e1,q1⟩:=wg (show zAD .no (zES P t H) (zG tm y)=.ok v J from q) R.ok_ne
  exact(yZ q1).2
 |lookup t y z ok=>exact(yZ (show zt H (wn P H t (zG tm y) (zG tm z) ok)=.ok v J from q)).2
 |call c=>
  obtain⟨callee,args,ts⟩:=c
  have hargs:LR φ (yY tm args.toList) _:=zBW (a:=⟨tmps,[]⟩) htm (by
   rw[List.all_eq_true];intro y hy;exact List.all_eq_true.1 hok y (by simp only[Op.operands,Call.operands,Array.toList_append,List.mem_append];exact .inr hy))
  cases callee with
  |builtin b=>
   have q:wZ P b ts.toList (yY tm args.toList) H=.ok v J:=q
   cases b with
   |len=>
    unfold wZ at q
    simp only at q
    split at q
    ·rcases za q R.ok_ne with ⟨_,q1⟩|⟨y,l,e1,q1⟩
     ·cases q1
     ·rcases za q1 R.ok_ne with ⟨e2,q2⟩|⟨_,_,_,q2⟩
      ·exact(yZ q2).2
      ·cases q2
    ·cases q
   |min=>
    rcases za (show zu .no .no (fun x l=>zt H (zCI minV l x)) (yY tm args.toList)=.ok v J from q) R.ok_ne with ⟨_,q1⟩|⟨y,l,e1,q1⟩
    ·cases q1
    ·exact(yZ q1).2
   |max=>
    rcases za (show zu .no .no (fun x l=>zt H (zCI maxV l x)) (yY tm args.toList)=.ok v J from q) R.ok_ne with ⟨_,q1⟩|⟨y,l,e1,q1⟩
    ·cases q1
    ·exact(yZ q1).2
   |_=>exact hro.elim
  |invoke _ _=>exact hro.elim
  |value f=>
   cases f with
   |func g=>
    obtain⟨rfl,hp⟩:ld=false∧pureFn P g=true:=hro
    exact(hG hp h hargs (fun _ _ _=>rfl) (show E.call g (yY tm args.toList) H=.ok v J from q) hfl).1
   |_=>exact hro.elim
 |_=>exact hro.elim
end Vam
namespace Vam
open Go
variable {P:Program}{φ:Phi}{H H' K:CH}{w:World}{v:V}{E:Ev}
theorem Rel.put(h:Rel P φ H w){i:Id}(hn:i.wf)(hb:Before i H.n)(hnone:φ i=none){x:Blk}{o:Obj}{m:Nat}
  (e1:H'.n=H.n) (e3:∀j:Id,j.wf→H'.get j=if j=i then some x else H.get j)
  (hx:BlkR P (φ.with i ⟨w.heap.size,0,m⟩) x ⟨w.heap.size,0,m⟩ (some o)):Rel P (φ.with i ⟨w.heap.size,0,m⟩) H' {w with heap:=w.heap.push o}:=by
 have hle:=Phi.le_with (⟨w.heap.size,0,m⟩:Loc) hnone
 have hget:∀b k,φ b=some k→H'.get b=H.get b:=by
  intro b k hb
  have hw:=h.wf b k hb
  rw[e3 b hw.1,if_neg]
  intro e;rw[e,hnone]at hb;cases hb
 have hold:∀r,r<w.heap.size→(w.heap.push o)[r]? =w.heap[r]? :=fun r hr=>by rw[World.heap_push,if_neg (by omega)]
 have hnew:(w.heap.push o)[w.heap.size]? =some o:=by rw[World.heap_push,if_pos rfl]
 have hgi:GInv (φ.with i ⟨w.heap.size,0,m⟩) H' {w with heap:=w.heap.push o}:=by
  intro g cs hg
  obtain⟨p1,⟨arr,el,fr,p2,p3⟩,p4⟩:=h.gl g cs hg
  refine⟨by simp;omega,⟨arr,el,fr,(hold g p1).trans p2,p3⟩,fun b l y hb q2 q3=>?_⟩
  by_cases e:b=i
  ·subst e
   rw[Phi.with_self]at hb;cases hb
   show w.heap.size≠g;omega
  ·rw[Phi.with_ne _ e]at hb
   exact p4 b l y hb ((hget b l hb).symm.trans q2) q3
 refine⟨⟨?_,?_,?_,?_⟩,hgi⟩
 ·rw[e1];exact h.nok
 ·intro b k hb'
  by_cases e:b=i
  ·subst e
   rw[Phi.with_self]at hb';cases hb'
   exact⟨hn,by rw[e1];exact hb,by simp⟩
  ·rw[Phi.with_ne _ e]at hb'
   obtain⟨h1,h2,h3⟩:=h.wf b k hb'
   exact⟨h1,by rw[e1];exact h2,by simp;omega⟩
 ·intro b k hb'
  by_cases e:b=i
  ·subst e
   rw[Phi.with_self]at hb';cases hb'
   exact⟨x,by rw[e3 _ hn,if_pos rfl],by rw[hnew];exact hx⟩
  ·rw[Phi.with_ne _ e]at hb'
   obtain⟨y,h1,h2⟩:=h.blk b k hb'
   exact⟨y,(hget b k hb').trans h1,by rw[hold _ (h.wf b k hb').2.2];exact h2.mono hle⟩
 ·intro b c l k y z hb' hc hne hr hy hz
  by_cases e:b=i
  ·subst e
   rw[Phi.with_self]at hb';cases hb'
   rw[Phi.with_ne _ (Ne.symm hne)]at hc
   have:=(h.wf c k hc).2.2
   change w.heap.size=k.r at hr
   omega
  ·rw[Phi.with_ne _ e]at hb'
   by_cases e':c=i
   ·subst e'
    rw[Phi.with_self]at hc;cases hc
    have:=(h.wf b l hb').2.2
    change l.r=w.heap.size at hr
    omega
   ·rw[Phi.with_ne _ e']at hc
    exact h.sep b c l k y z hb' hc hne hr ((hget b l hb').symm.trans hy) ((hget c k hc).symm.trans hz)
theorem Ext.put{φ₀:Phi}{H₀:CH}{w₀:World}(h:Ext φ₀ H₀ w₀ φ H w){i:Id}(hnb: ¬ Before i H₀.n)(hnone:φ i=none){x:Blk}{o:Obj}{m:Nat}
  (e1:H'.n=H.n) (e2:H'.fz=H.fz) (e3:∀j:Id,j.wf→H'.get j=if j=i then some x else H.get j) (ho:zBk o:=by first|exact rfl|trivial):
  Ext φ₀ H₀ w₀ (φ.with i ⟨w.heap.size,0,m⟩) H' {w with heap:=w.heap.push o}:=by
 refine⟨Phi.le_trans h.le (Phi.le_with _ hnone),e2.trans h.fz,?_,?_,?_,?_,?_,?_,?_,h.os,h.tape,h.output,?_,fun b hb hbw hd=>by
  obtain⟨cs,e,sh,hd⟩:=h.dead b hb hbw hd
  exact⟨cs,e,sh,by rw[e3 b hbw,if_neg (by rintro rfl;exact hnb hb)];exact hd⟩⟩
 ·intro b k hb hb0
  by_cases e:b=i
  ·subst e;exact hnb
  ·rw[Phi.with_ne _ e]at hb;exact h.newId b k hb hb0
 ·intro b hb;rw[e1];exact h.before b hb
 ·intro b k hb hb0
  by_cases e:b=i
  ·subst e;rw[Phi.with_self]at hb;cases hb;exact .inl h.size
  ·rw[Phi.with_ne _ e]at hb;exact h.newLoc b k hb hb0
 ·intro r hr hall
  rw[←h.frame r hr hall]
  have:=h.size
  show(w.heap.push o)[r]? =_
  rw[World.heap_push,if_neg (by omega)]
 ·rintro b hb hbw hw ⟨h1,y,h2,h3⟩
  have hne:b≠i:=by rintro rfl;exact hnb hb
  rw[e3 b hbw,if_neg hne]at h2
  exact h.ro b hb hbw hw ⟨by rw[←e2];exact h1,y,h2,h3⟩
 ·intro b hb hbw hf
  have hne:b≠i:=by rintro rfl;exact hnb hb
  rw[e3 b hbw,if_neg hne];exact h.keep b hb hbw hf
 ·have:=h.size;simp;omega
 ·intro a;exact(zGs w ho a).trans (h.fro a)
theorem zAn(H:CH):H.freeze.n=H.n:=by cases H;rfl
theorem zCG(H:CH)(b:Id):H.freeze.get b=H.get b:=by cases H;rfl
theorem zEa(H:CH):H.freeze.fz=H.n.top:=by cases H;rfl
theorem zEH(f:Nat)(H:CH):(H.thaw f).n=H.n:=by cases H;rfl
theorem wH(f:Nat)(H:CH)(b:Id):(H.thaw f).get b=H.get b:=by cases H;rfl
theorem zEl(f:Nat)(H:CH):(H.thaw f).fz=f:=by cases H;rfl
theorem Rel.like(h:Rel P φ H w)(hn:K.n=H.n)(hg:∀b k,φ b=some k→K.get b=H.get b):Rel P φ K w:=by
 refine⟨⟨by rw[hn];exact h.nok,fun b k hb=>by rw[hn];exact h.wf b k hb,fun b k hb=>by rw[hg b k hb];exact h.blk b k hb,?_⟩,fun g cs q=>⟨(h.gl g cs q).1,(h.gl g cs q).2.1,fun b k x hb hx=>(h.gl g cs q).2.2 b k x hb (by rw[←hg b k hb];exact hx)⟩⟩
 intro b c l k x y hb hc hne hr hx hy
 rw[hg b l hb]at hx;rw[hg c k hc]at hy
 exact h.sep b c l k x y hb hc hne hr hx hy
theorem zHi(h:Rel P φ H w):Rel P φ H.freeze w:=h.like (zAn H) (fun b _ _=>zCG H b)
theorem thaw_rel(h:Rel P φ H w)(f:Nat):Rel P φ (H.thaw f) w:=h.like (zEH f H) (fun b _ _=>wH f H b)
theorem Id.num_lt_top{b n:Id}(hn:n.okN)(h:Before b n):b.num<n.top:=by
 cases n with
 |mk k _ _ _ _ _=>exact h
 |over=>exact hn.elim
theorem quiet_ext(h:Rel P φ H w){φ':Phi}{w':World}{H₁:CH}(k:Ext φ H.freeze w φ' H₁ w'):Ext φ H w φ' (H₁.thaw H.fz) w'∧∀b,b.wf→Before b H.n→H₁.get b=H.get b:=by
 have hk:∀b,b.wf→Before b H.n→H₁.get b=H.get b:=by
  intro b hb hbn
  have:=k.keep b (by rw[zAn];exact hbn) hb (by rw[zEa];exact Id.num_lt_top h.nok hbn)
  rw[this,zCG]
 have hno:∀b,b.wf→Before b H.n→ ¬ WrAt H.freeze b:=by
  rintro b hb hbn ⟨h1,_⟩
  rw[zEa]at h1
  have:=Id.num_lt_top h.nok hbn
  omega
 refine⟨⟨k.le,zEl _ _,?_,?_,?_,?_,?_,?_,k.size,k.os,k.tape,k.output,k.fro,fun b hb hbw hd=>by
  obtain⟨cs,e,sh,hd⟩:=hd
  exact⟨cs,e,sh,by rw[wH,hk b hbw hb];exact hd⟩⟩,hk⟩
 ·intro b l hb hb0;have:=k.newId b l hb hb0;rw[zAn]at this;exact this
 ·intro b hb;rw[zEH];exact k.before b (by rw[zAn];exact hb)
 ·intro b l hb hb0
  rcases k.newLoc b l hb hb0 with h1|⟨c,m,hc,_,hw⟩
  ·exact .inl h1
  ·exact absurd hw (hno c (h.wf c m hc).1 (h.wf c m hc).2.1)
 ·intro r hr _
  exact k.frame r hr (fun b l hb _=>hno b (h.wf b l hb).1 (h.wf b l hb).2.1)
 ·rintro b hb hbw hw ⟨h1,x,h2,h3⟩
  rw[zEl]at h1;rw[wH,hk b hbw hb]at h2
  exact hw ⟨h1,x,h2,h3⟩
 ·intro b hb hbw _;rw[wH];exact hk b hbw hb
theorem zFu{tm:TT}{o:Op}(h:zDn P E tm H o=.ok v H'):∃H₁,evOp P E tm H.freeze o=.ok v H₁∧H'=H₁.thaw H.fz:=by
 unfold zDn at h
 cases q:evOp P E tm H.freeze o with
 |no=>rw[q]at h;cases h
 |ok x H₁=>rw[q]at h;cases h;exact⟨H₁,rfl,rfl⟩
theorem yl(i:Id)(H:CH):(H.named i).n=i:=by cases H;rfl
theorem zCC(i:Id)(H:CH)(b:Id):(H.named i).get b=H.get b:=by cases H;rfl
theorem zDU(i:Id)(H:CH):(H.named i).fz=H.fz:=by cases H;rfl
theorem zHf{tm:TT}{o:Op}{i:Id}(h:zEW P E i tm H o=.ok v H'):∃J,evOp P E tm (H.named i) o=.ok v J∧H'=J.named H.n:=by
 unfold zEW at h
 cases q:evOp P E tm (H.named i) o with
 |no=>rw[q]at h;cases h
 |ok x J=>rw[q]at h;cases h;exact⟨J,rfl,rfl⟩
theorem wG{t:TypeId}{n:Nat}{ps:List (Nat×V)}{J:CH}(hn:H.n.wf)(hr:ze P t n ps H=.ok v J):
  ∃l e,v=.slice H.n 0 n (capX n) (P.cellsOf e)∧J.n=H.n.next∧J.fz=H.fz∧(∀j:Id,j.wf→J.get j=if j=H.n then some (.cells l e 0 [])else H.get j)∧
   (∀K:CH,ze P t n ps K=alloc .no K (.cells l e 0 []) (fun m H=>.ok (.slice m 0 n (capX n) (P.cellsOf e)) H))∧
   ∀(φ:Phi) (w:World) (qs:List (Nat×Value)),PartsR φ ps qs→∃cs:Array Value,(Instr.buildSlice t n qs.toArray).run P w=.ok (.slice (some ⟨w.heap.size,0,none⟩) n n) {w with heap:=w.heap.push (.cells cs e)}∧LR φ l cs.toList:=by
 have hr0:=hr
 unfold ze at hr
 split at hr
 ·rename_i e ht
  split at hr
  ·cases hr
  ·rename_i z hz
   split at hr
   ·rename_i hb1 hb2
    split at hr
    ·rename_i l hl
     obtain⟨H₁,e1,e2,e3,e4,e5⟩:=wK hr R.ok_ne (id hn)
     cases e1
     refine⟨l,e,rfl,e3,e4,e5,?_,?_⟩
     ·intro K
      unfold ze
      simp only[ht,hz,hb1,hb2,hl]
     ·intro φ w qs hp
      obtain⟨g1,g2⟩:=zq ht
      have hs:=yI (yV g2).1 w
      obtain⟨zv,h4,h5⟩:=zBa hz w
      have hlen:zv.cells.size=P.cellsOf e:=by
       have:=zl hb1
       rw[zAR,LR.len (h5 φ)]at this;simpa using this
      have hle:n*P.cellsOf e≤4096:=Nat.le_of_ble_eq_true hb2
      by_cases h0:n*P.cellsOf e=0
      ·have hz0:LR φ (repL z n) (#[]:Array Value).toList:=by
        have h6:=LR.rep (h5 φ) n
        have:(List.replicate n zv.cells.toList).flatten=[]:=by
         apply List.length_eq_zero_iff.1;simp[hlen,h0]
        rw[this]at h6;exact h6
       obtain⟨cs,k1,k2⟩:=zEe _ hp hz0 hl
       refine⟨cs,?_,k2⟩
       simp only[Instr.buildSlice,Sem.run_bind,run_underlying g1,Result.andThen_ok,hs,h0]
       simp[k1,newRow,show Array.range 0=(#[]:Array Nat)from rfl]
      ·have hpos:0<zv.cells.size:=by rw[hlen];exact Nat.pos_of_ne_zero fun e=>h0 (by rw[e];simp)
       have hz0:LR φ (repL z n) ((Array.range (n*P.cellsOf e)).map (zv.cells[· % zv.cells.size]!)).toList:=by
        have h6:=LR.rep (h5 φ) n
        rw[←zAg _ _ (.inl hpos),hlen]at h6;rw[hlen];exact h6
       obtain⟨cs,k1,k2⟩:=zEe _ hp hz0 hl
       refine⟨cs,?_,k2⟩
       have hle2: ¬ (n*P.cellsOf e > 2 ^ 24):=by omega
       simp only[Instr.buildSlice,Sem.run_bind,run_underlying g1,Result.andThen_ok,hs]
       rw[if_neg hle2]
       simp[h0,h4,k1,newRow]
    ·cases hr
   ·cases hr
 ·cases hr
theorem constSl_ok{t:TypeId}{x y:V}{r:V×TypeId×Nat×Nat}(h:zFL P t x y=some r):∃k1 k2 z,x=.int k1 (.ofNat r.2.2.1)∧y=.int k2 (.ofNat r.2.2.2)∧tyOf P t=.slice r.2.1∧
  r.2.2.1≤r.2.2.2∧r.2.2.2*(P.bytesOf r.2.1+P.cellsOf r.2.1+1)≤16777216∧yf P r.2.1=some z∧lenV z 0=P.cellsOf r.2.1∧r.1=repL z r.2.2.2:=by
 unfold zFL at h
 split at h
 ·rename_i e ht
  obtain⟨k1,l,rfl,h⟩:=zBL (no:=none) h (by simp)
  change zFe none _ y=some r at h
  obtain⟨k2,c,rfl,h⟩:=zBL (no:=none) h (by simp)
  obtain⟨h1,h⟩:=zH (no:=none) h (by simp)
  obtain⟨h2,h⟩:=zH (no:=none) h (by simp)
  obtain⟨z,hz,h⟩:=zP (no:=none) h (by simp)
  obtain⟨h3,h⟩:=zH (no:=none) h (by simp)
  cases h
  exact⟨k1,k2,z,rfl,rfl,ht,Nat.le_of_ble_eq_true h1,Nat.le_of_ble_eq_true h2,hz,zl h3,rfl⟩
 ·cases h
theorem pre_run{n:Nat}{o:Oper}(hok:wF n o=true){x:Blk}{i:Id}(hx:zEP P o.op=some x)(hv:preVal P i o.op=some v)(a:Act)(w:World):
  (∀c,o.op≠.defer c)∧∃(obj:Obj) (m:Nat) (xv:Value),(execOp a.eval o).run P w=.ok (.value xv) {w with heap:=w.heap.push obj}∧zBk obj∧
   ∀φ:Phi,φ i=some ⟨w.heap.size,0,m⟩→BlkR P φ x ⟨w.heap.size,0,m⟩ (some obj)∧VR φ v xv:=by
 have hall:=(Bool.and_eq_true_iff.1 hok).2
 cases ho:o.op with
 |alloc e=>
  rw[ho]at hx hv
  refine⟨fun c hc=>(by cases hc),?_⟩
  obtain⟨z,hz,h1⟩:=zP (no:=none) (show opt none (fun z=>some (Blk.cells z e 0 [])) (yf P e)=some x from hx) (by simp)
  cases h1
  cases(show some (V.ptr i 0)=some v from hv)
  obtain⟨zv,z1,z2⟩:=zBa hz w
  refine⟨.cells zv.cells e,zv.cells.size,.pointer (some ⟨w.heap.size,0,none⟩),?_,rfl,fun φ hφ=>⟨?_,.ptr i 0 _ hφ⟩⟩
  ·simp only[execOp,ho];simp[Instr.alloc,z1,zEq]
  ·refine .inr ⟨⟨zv.cells,e,rfl,by simp,?_,zv.cells.toList,z2 _,fun i v hv=>by simpa using hv⟩,by simp⟩
   rw[(z2 φ).len];simp
 |makeSlice t lo co=>
  rw[ho]at hx hv hall
  cases lo with
  |const lv=>
   cases co with
   |const cv=>
    refine⟨fun c hc=>(by cases hc),?_⟩
    obtain⟨r,hr,h1⟩:=zP (no:=none) (show opt none (fun r=>some (Blk.cells r.1 r.2.1 0 [])) (zFL P t (zDr lv) (zDr cv))=some x from hx) (by simp)
    cases h1
    have hv:opt none (fun r=>some (V.slice i 0 r.2.2.1 (capX r.2.2.2) (P.cellsOf r.2.1))) (zFL P t (zDr lv) (zDr cv))=some v:=hv
    rw[hr]at hv
    cases hv
    obtain⟨k1,k2,z,e1,e2,ht,hle,hmax,hz,hb3,e3⟩:=constSl_ok hr
    obtain⟨cells,e,l,c⟩:=r
    have hl0:VR (fun _=>none) (zDr lv) lv:=zGf (List.all_eq_true.1 hall (.const lv) (by simp[Op.operands]))
    have hc0:VR (fun _=>none) (zDr cv) cv:=zGf (List.all_eq_true.1 hall (.const cv) (by simp[Op.operands]))
    rw[e1]at hl0;rw[e2]at hc0
    cases hl0;cases hc0
    change tyOf P t=.slice e at ht
    change l≤c at hle
    change c*(P.bytesOf e+P.cellsOf e+1)≤16777216 at hmax
    change yf P e=some z at hz
    change lenV z 0=P.cellsOf e at hb3
    change cells=repL z c at e3
    subst e3
    obtain⟨g1,g2⟩:=zq ht
    obtain⟨ti,hi⟩:=(yV g2).1
    have hs:=yI (yV g2).1 w
    obtain⟨zv,h4,h5⟩:=zBa hz w
    have hlen:zv.cells.size=P.cellsOf e:=by
     rw[zAR,LR.len (h5 (fun _=>none))]at hb3;simpa using hb3
    have hc:c≤16777216:=Nat.le_trans (Nat.le_mul_of_pos_right c (by omega)) hmax
    have hcb:c*P.bytesOf e≤16777216:=Nat.le_trans (Nat.mul_le_mul_left c (by omega)) hmax
    have hby:ti.bytes=P.bytesOf e:=by simp[Program.bytesOf,hi]
    have w1:IntKind.i64.wrap (l:Int)=l:=IntWalk.i64_in _ (by omega)
    have w2:IntKind.i64.wrap (c:Int)=c:=IntWalk.i64_in _ (by omega)
    obtain⟨cs,c1,c2⟩:∃cs:Array Value,(Instr.makeSlice t (.int k1 l) (.int k2 c)).run P w=.ok (.slice (some ⟨w.heap.size,0,none⟩) l c) {w with heap:=w.heap.push (.cells cs e)}∧∀φ:Phi,LR φ (repL z c) cs.toList:=by
     have n1: ¬ ((c:Int)<0):=by omega
     have n2: ¬ (281474976710656<(ti.bytes:Int)*(c:Int)):=by
      rw[hby,Int.mul_comm]
      have h9:((c*P.bytesOf e:Nat):Int)≤((16777216:Nat):Int):=Int.ofNat_le.2 hcb
      rw[Int.natCast_mul]at h9
      intro h10
      have h11:=Int.lt_of_lt_of_le h10 h9
      exact absurd h11 (by decide)
     have n3: ¬ ((l:Int)<0):=by omega
     have n4: ¬ ((l:Int) > (c:Int)):=by omega
     by_cases h0:c*P.cellsOf e=0
     ·refine⟨#[],?_,fun φ=>?_⟩
      ·simp[Instr.makeSlice,run_underlying g1,asInt,asIntOf,run_typeInfo w hi,w1,w2,n1,n2,n3,n4,hs,h0,newRow,show Array.range 0=(#[]:Array Nat)from rfl]
      ·have h6:=LR.rep (h5 φ) c
       have:(List.replicate c zv.cells.toList).flatten=[]:=by
        apply List.length_eq_zero_iff.1;simp[hlen,h0]
       rw[this]at h6;exact h6
     ·have hpos:0<zv.cells.size:=by rw[hlen];exact Nat.pos_of_ne_zero fun e=>h0 (by rw[e];simp)
      refine⟨(Array.range (c*P.cellsOf e)).map (zv.cells[· % zv.cells.size]!),?_,fun φ=>?_⟩
      ·simp[Instr.makeSlice,run_underlying g1,asInt,asIntOf,run_typeInfo w hi,w1,w2,n1,n2,n3,n4,hs,h0,h4,newRow]
      ·have h6:=LR.rep (h5 φ) c
       rw[←zAg _ _ (.inl hpos),hlen]at h6;rw[hlen];exact h6
    refine⟨.cells cs e,cs.size,.slice (some ⟨w.heap.size,0,none⟩) l c,?_,rfl,fun φ hφ=>⟨?_,?_⟩⟩
    ·simp only[execOp,ho]
     show((do pure (.value (←Instr.makeSlice t (.int k1 l) (.int k2 c))):Sem Next)).run P w=_
     simp[c1]
    ·refine .inr ⟨⟨cs,e,rfl,by simp,?_,cs.toList,c2 φ,fun i v hv=>by simpa using hv⟩,by simp⟩
     rw[LR.len (c2 φ)];simp
    ·exact .slice i 0 l _ _ c _ hφ ⟨by rw[zBG];exact hle,fun _=>by rw[zBG],fun e=>by rw[zFV]at e;cases e⟩
   |_=>cases hx
  |_=>cases hx
 |_=>rw[ho]at hx;cases hx
theorem zFv{i:Id}{o:Op}(h:preOp P i H o=.ok v H'):H'=H∧preVal P i o=some v∧∀K,preOp P i K o=.ok v K:=by
 unfold preOp at h ⊢
 obtain⟨u,hu,h1⟩:=zP h R.ok_ne
 cases h1
 exact⟨rfl,hu,fun K=>by rw[hu];rfl⟩
end Vam
namespace Vam
open Go
variable {P:Program}{φ:Phi}{H H' K:CH}{w:World}{v:V}{E:Ev}
def zFk(p:Oper×Md)(i:Id):Prop:=p.2=.pre i∨p.2=.lay i
structure DInv(P:Program)(φ₀:Phi)(H₀:CH)(w₀:World)(l:List (Oper×Md))(φ:Phi)(H:CH)(w:World):Prop where
 rel:Rel P φ H w
 ext:Ext φ₀ H₀ w₀ φ H w
 pend:∀p∈l,∀i,zFk p i→i.wf∧Before i H.n∧ ¬ Before i H₀.n∧φ i=none
 pre:∀p∈l,∀i,p.2=.pre i→∃x,zEP P p.1.op=some x∧H.get i=some x
 lay:∀p∈l,∀i,p.2=.lay i→∃t n ps,p.1.op=.buildSlice t n ps
 read:∀p∈l,∀ld,p.2=.read ld→zHH P ld p.1.op
structure Keeps(p:Oper×Md)(l':List (Oper×Md)):Prop where
 ids:∀q∈l',∀i j,zFk p i→zFk q j→i≠j
 pre:∀q∈l',∀i,q.2=.pre i→p.2≠.plain∨zEz p.1.op=false
theorem DInv.less{φ₀:Phi}{H₀:CH}{w₀:World}{l l':List (Oper×Md)}(h:DInv P φ₀ H₀ w₀ l φ H w)(hs:∀q∈l',q∈l):DInv P φ₀ H₀ w₀ l' φ H w:=
 ⟨h.rel,h.ext,fun p hp=>h.pend p (hs p hp),fun p hp=>h.pre p (hs p hp),fun p hp=>h.lay p (hs p hp),fun p hp=>h.read p (hs p hp)⟩
theorem DInv.step{φ₀:Phi}{H₀:CH}{w₀:World}{l:List (Oper×Md)}(h:DInv P φ₀ H₀ w₀ l φ H w){φ':Phi}{w':World}(h1:Rel P φ' H' w')(h2:Ext φ H w φ' H' w')
  (hb:Rel P φ₀ H₀ w₀) (hk:∀p∈l,∀i,p.2=.pre i→H'.get i=H.get i):DInv P φ₀ H₀ w₀ l φ' H' w':=by
 refine⟨h1,h.ext.trans hb h2,?_,?_,h.lay,h.read⟩
 ·intro p hp i hi
  obtain⟨q1,q2,q3,q4⟩:=h.pend p hp i hi
  refine⟨q1,h2.before i q2,q3,?_⟩
  cases hx:φ' i with
  |none=>rfl
  |some k=>exact absurd q2 (h2.newId i k hx q4)
 ·intro p hp i hi
  obtain⟨x,q1,q3⟩:=h.pre p hp i hi
  exact⟨x,q1,by rw[hk p hp i hi];exact q3⟩
def Later(φ:Phi)(H H':CH):Prop:=H'.fz=H.fz∧∀b k,φ b=some k→(b.num<H.fz→H'.get b=H.get b)∧(¬ WrAt H b→ ¬ WrAt H' b)∧(zFY H b→zFY H' b)
theorem Later.of_ext(h:Rel P φ H w){φ':Phi}{w':World}(k:Ext φ H w φ' H' w'):Later φ H H':=
 ⟨k.fz,fun b l hb=>⟨fun hf=>k.keep b (h.wf b l hb).2.1 (h.wf b l hb).1 hf,fun hw=>k.ro b (h.wf b l hb).2.1 (h.wf b l hb).1 hw,k.dead b (h.wf b l hb).2.1 (h.wf b l hb).1⟩⟩
theorem Later.of_agree(hf:H'.fz=H.fz)(ha:Agree φ H H'):Later φ H H':=by
 refine⟨hf,fun b l hb=>⟨fun _=>ha b l hb,?_,fun hd=>by obtain⟨cs,e,sh,hd⟩:=hd;exact⟨cs,e,sh,by rw[ha b l hb];exact hd⟩⟩⟩
 rintro hw ⟨h1,x,h2,h3⟩
 rw[ha b l hb]at h2
 exact hw ⟨by rw[←hf];exact h1,x,h2,h3⟩
theorem Later.trans{φ₁:Phi}{H₁:CH}(h:Later φ H H₁)(hle:φ.le φ₁)(k:Later φ₁ H₁ H'):Later φ H H':=
 ⟨k.1.trans h.1,fun b l hb=>⟨fun hf=>((k.2 b l (hle b l hb)).1 (by rw[h.1];exact hf)).trans ((h.2 b l hb).1 hf),fun hw=>(k.2 b l (hle b l hb)).2.1 ((h.2 b l hb).2.1 hw),fun hd=>(k.2 b l (hle b l hb)).2.2 ((h.2 b l hb).2.2 hd)⟩⟩
theorem wp_of_run{o:Oper}{a:Act}{next:Act→World→Prop}{Q:Exit→Act→World→Prop}{r:Option Nat}{x:Value}{w':World}(hd:∀c,o.op≠.defer c)(ho:(execOp a.eval o).run P w=.ok (.value x) w')
  (hnext:next (a.put o.dst x) w'):o.wpIn (wU r) 0 P a w next Q:=by
 refine⟨fun _ _=>trivial,?_⟩
 show o.uponIn (wU r) 0 P a next Q ((o.semAt r a.eval).run P w)
 rw[Oper.semAt_eq r a.eval o hd,ho]
 exact hnext
theorem draw_wp(hC:yi P E)(hD:zo P E)(hG:wl P E){φ₀:Phi}{H₀:CH}{w₀:World}{l l':List (Oper×Md)}(hb:Rel P φ₀ H₀ w₀)(hI:DInv P φ₀ H₀ w₀ l φ H w){p:Oper×Md}(hp:p∈l)(hs:∀q∈l',q∈l)(hk:Keeps p l')
  {tm:TT} {a:Act} (htm:TmR φ tm a.tmps) (hok:wF a.tmps.size p.1=true) (hr:zAz P E tm H p.2 p.1.op=.ok v H') {next:Act→World→Prop} {Q:Exit→Act→World→Prop} {r:Option Nat}
  (hnext:∀φ' w' x,DInv P φ₀ H₀ w₀ l' φ' H' w'→φ.le φ'→Later φ H H'→VR φ' v x→next (a.put p.1.dst x) w'):p.1.wpIn (wU r) 0 P a w next Q:=by
 have h:=hI.rel
 have hI':=hI.less hs
 obtain⟨o,md⟩:=p
 cases md with
 |plain=>
  have hr:evOp P E tm H o.op=.ok v H':=hr
  refine op_wp hC hD h htm hok hr (fun φ' w' x h1 h2 h3=>hnext φ' w' x (hI'.step h1 h2 hb ?_) h2.le (.of_ext h h2) h3)
  intro q hq i hi
  rcases hk.pre q hq i hi with h4|h4
  ·exact absurd rfl h4
  ·rw[(zGy h4 hr).1]
 |quiet=>
  obtain⟨H₁,h1,rfl⟩:=zFu (show zDn P E tm H o.op=.ok v H' from hr)
  refine op_wp hC hD (zHi h) htm hok h1 (fun φ' w' x k1 k2 k3=>?_)
  obtain⟨k4,k5⟩:=quiet_ext h k2
  refine hnext φ' w' x (hI'.step (thaw_rel k1 _) k4 hb ?_) k4.le (.of_ext h k4) k3
  intro q hq i hi
  obtain⟨g1,g2,_⟩:=hI'.pend q hq i (.inl hi)
  rw[wH,k5 i g1 g2]
 |read ld=>
  have hro:=hI.read _ hp ld rfl
  have hr:zAa P E ld tm H o.op=.ok v H':=hr
  have hall:o.op.operands.toList.all (okO a.tmps.size)=true:=(Bool.and_eq_true_iff.1 hok).2
  unfold zAa at hr
  cases q:evOp P E tm H o.op with
  |no=>rw[q]at hr;cases hr
  |ok x J=>
   rw[q]at hr
   obtain⟨hq,hr1⟩:=zH (show cond (cond ld true (zAE x)) (R.ok x H) .no=.ok v H' from hr) R.ok_ne
   cases hr1
   have hJ:=zGX hG h htm hall hro q hq
   subst hJ
   exact op_wp hC hD h htm hok q (fun φ' w' x h1 h2 h3=>hnext φ' w' x (hI'.step h1 h2 hb (fun _ _ _ _=>rfl)) h2.le (.of_ext h h2) h3)
 |pre i=>
  obtain⟨rfl,hval,_⟩:=zFv (show preOp P i H o.op=.ok v H' from hr)
  obtain⟨x,e1,e3⟩:=hI.pre _ hp i rfl
  obtain⟨g1,g2,g3,g4⟩:=hI.pend _ hp i (.inl rfl)
  have e3:H'.get i=some x:=e3
  have hset:∀j:Id,j.wf→H'.get j=if j=i then some x else H'.get j:=by
   intro j _;by_cases hj:j=i
   ·rw[if_pos hj,hj,e3]
   ·rw[if_neg hj]
  obtain⟨hnd,obj,m,xv,hrun,hplain,hrel⟩:=pre_run (n:=a.tmps.size) (o:=o) hok e1 hval a w
  obtain⟨r1,r2⟩:=hrel (φ.with i ⟨w.heap.size,0,m⟩) (Phi.with_self _ _ _)
  refine wp_of_run (x:=xv) (w':={w with heap:=w.heap.push obj}) hnd hrun ?_
  refine hnext (φ.with i ⟨w.heap.size,0,m⟩) _ _ ⟨?_,?_,?_,?_,hI'.lay,hI'.read⟩ (Phi.le_with _ g4) (.of_agree rfl (fun _ _ _=>rfl)) r2
  ·exact h.put g1 g2 g4 rfl hset r1
  ·exact hI.ext.put g3 g4 rfl rfl hset hplain
  ·intro q hq j hj
   obtain⟨q1,q2,q3,q4⟩:=hI'.pend q hq j hj
   exact⟨q1,q2,q3,by rw[Phi.with_ne _ (Ne.symm (hk.ids q hq i j (.inl rfl) hj))];exact q4⟩
  ·exact hI'.pre
 |lay i=>
  obtain⟨J,h1,rfl⟩:=zHf (show zEW P E i tm H o.op=.ok v H' from hr)
  obtain⟨t,n,ps,e1⟩:=hI.lay _ hp i rfl
  obtain⟨g1,g2,g3,g4⟩:=hI.pend _ hp i (.inr rfl)
  have e1:o.op=.buildSlice t n ps:=e1
  rw[e1]at h1
  have h1:ze P t n (zW tm ps.toList) (H.named i)=.ok v J:=h1
  obtain⟨c,e,rfl,j1,j2,j3,_,j4⟩:=wG (by rw[yl];exact g1) h1
  rw[yl]at j1 j3
  have hall:=(Bool.and_eq_true_iff.1 hok).2
  have hparts:PartsR φ (zW tm ps.toList) (ps.toList.map fun p=>(p.1,a.eval p.2)):=zCY htm (by
   rw[show(o,Md.lay i).1=o from rfl,e1]at hall;simpa[Op.operands,List.all_eq_true,Function.comp_def]using hall)
  obtain⟨cs,c1,c2⟩:=j4 φ w _ hparts
  rw[←zGc]at c1
  have hset:∀j:Id,j.wf→(J.named H.n).get j=if j=i then some (.cells c e 0 [])else H.get j:=by
   intro j hj
   rw[zCC,j3 j hj,zCC]
  refine wp_of_run (x:=.slice (some ⟨w.heap.size,0,none⟩) n n) (w':={w with heap:=w.heap.push (.cells cs e)}) (fun c hc=>by rw[e1]at hc;cases hc) (by simp only[execOp,e1];simp[c1]) ?_
  refine hnext (φ.with i ⟨w.heap.size,0,cs.size⟩) _ _ ⟨?_,?_,?_,?_,hI'.lay,hI'.read⟩ (Phi.le_with _ g4) (.of_agree (by rw[zDU,j2,zDU]) (fun b k hb=>by
   rw[hset b (h.wf b k hb).1,if_neg];rintro rfl;rw[g4]at hb;cases hb)) ?_
  ·refine h.put g1 g2 g4 (yl _ _) hset ?_
   refine .inr ⟨⟨cs,e,rfl,by simp,?_,cs.toList,c2.mono (Phi.le_with _ g4),fun i v hv=>by simpa using hv⟩,by simp⟩
   rw[LR.len c2];simp
  ·exact hI.ext.put g3 g4 (yl _ _) (by rw[zDU,j2,zDU]) hset
  ·intro q hq j hj
   obtain⟨q1,q2,q3,q4⟩:=hI'.pend q hq j hj
   exact⟨q1,by rw[yl];exact q2,q3,by rw[Phi.with_ne _ (Ne.symm (hk.ids q hq i j (.inr rfl) hj))];exact q4⟩
  ·intro q hq j hj
   obtain⟨x',q1,q3⟩:=hI'.pre q hq j hj
   refine⟨x',q1,?_⟩
   rw[hset j (hI'.pend q hq j (.inl hj)).1,if_neg (Ne.symm (hk.ids q hq i j (.inr rfl) (.inl hj)))];exact q3
  ·rw[yl]
   exact .slice i 0 n _ _ n _ (Phi.with_self _ _ _) ⟨by rw[zBG];omega,fun _=>by rw[zBG],fun e=>by rw[zFV]at e;cases e⟩
end Vam
namespace Vam
open Go
variable {P:Program}{φ:Phi}{H H' K:CH}{w:World}{v:V}{E:Ev}
theorem zGQ{all:List Oper}{p:Oper×Md}{tm tm₁:TT}(h:yN P E all p tm H=.ok tm₁ H'):
  (zBl all tm p.1.guard=true∧∃v,zAz P E tm H p.2 p.1.op=.ok v H'∧tm₁=setT tm p.1.dst v)∨(zBl all tm p.1.guard=false∧H'=H∧tm₁=setT tm p.1.dst undef):=by
 unfold yN at h
 cases hw:zBl all tm p.1.guard with
 |true=>
  rw[hw]at h
  have h:wO p.1.dst tm (zAz P E tm H p.2 p.1.op)=.ok tm₁ H':=h
  unfold wO at h
  cases q:zAz P E tm H p.2 p.1.op with
  |no=>rw[q]at h;cases h
  |ok x J=>rw[q]at h;cases h;exact .inl ⟨rfl,x,rfl,rfl⟩
 |false=>rw[hw]at h;cases h;exact .inr ⟨rfl,rfl,rfl⟩
theorem step_go{all:List Oper}{p:Oper×Md}{tm:TT}(hw:zBl all tm p.1.guard=true)(h:zAz P E tm H p.2 p.1.op=.ok v H'):yN P E all p tm H=.ok (setT tm p.1.dst v) H':=by
 unfold yN wO;rw[hw,h];rfl
theorem zEI{all:List Oper}{p:Oper×Md}{tm:TT}(hw:zBl all tm p.1.guard=false):yN P E all p tm H=.ok (setT tm p.1.dst undef) H:=by
 unfold yN;rw[hw];rfl
theorem wantO_eq{ops:Array Oper}{tm:TT}{tmps:Array Value}(htm:TmR φ tm tmps)(hok:ops.toList.all (wF tmps.size)=true)(o:Oper):Region.wanted o (yielded ops tmps)=zBl ops.toList tm o.guard:=by
 cases hg:o.guard with
 |none=>simp[Region.wanted,hg,zBl,opt]
 |some g=>rw[wantB_eq htm hok o g hg];rfl
theorem step_wp(hC:yi P E)(hD:zo P E)(hG:wl P E){ops:Array Oper}{φ₀:Phi}{H₀:CH}{w₀:World}{l l':List (Oper×Md)}(hb:Rel P φ₀ H₀ w₀)(hI:DInv P φ₀ H₀ w₀ l φ H w){p:Oper×Md}(hp:p∈l)
  (hs:∀q∈l',q∈l) (hk:Keeps p l') {tm tm₁:TT} {a:Act} (htm:TmR φ tm a.tmps) (hall:ops.toList.all (wF a.tmps.size)=true) {i:Nat} (hi:ops[i]? =some p.1) (hr:yN P E ops.toList p tm H=.ok tm₁ H')
  {K:Act→World→Prop} {Q:Exit→Act→World→Prop} {r:Option Nat}
  (hnext:∀a' φ' w',DInv P φ₀ H₀ w₀ l' φ' H' w'→φ.le φ'→Later φ H H'→TmR φ' tm₁ a'.tmps→a'.tmps.size=a.tmps.size→a'.defers=a.defers→K a' w'):wpOpIn (wU r) 0 P ops Q i K a w:=by
 have hok:wF a.tmps.size p.1=true:=List.all_eq_true.1 hall p.1 (by simpa using Array.mem_of_getElem? hi)
 have hdst:wj a.tmps.size p.1.dst=true:=(Bool.and_eq_true_iff.1 hok).1
 unfold wpOpIn
 simp only[hi]
 rw[wantO_eq htm hall]
 rcases zGQ hr with ⟨h1,v,h2,rfl⟩|⟨h1,rfl,rfl⟩
 ·rw[if_pos h1]
  refine draw_wp hC hD hG hb hI hp hs hk htm hok h2 (fun φ' w' x k1 k2 k4 k3=>?_)
  obtain⟨p1,p2,p3⟩:=(htm.mono k2).put hdst k3
  exact hnext _ φ' w' k1 k2 k4 p1 p2 p3
 ·rw[if_neg (by rw[h1];simp)]
  obtain⟨p1,p2,p3⟩:=htm.put hdst (zEG φ)
  exact⟨fun _ _=>trivial,hnext _ φ w (hI.less hs) (Phi.le_refl _) (.of_agree rfl (fun _ _ _=>rfl)) p1 p2 p3⟩
theorem zEn(hC:yi P E)(hD:zo P E)(hG:wl P E){ops:Array Oper}{φ₀:Phi}{H₀:CH}{w₀:World}{l l':List (Oper×Md)}(hb:Rel P φ₀ H₀ w₀)(hI:DInv P φ₀ H₀ w₀ l φ H w){p:Oper×Md}(hp:p∈l)
  (hs:∀q∈l',q∈l) (hk:Keeps p l') {tm tm₁:TT} {tmps:Array Value} (htm:TmR φ tm tmps) (hall:ops.toList.all (wF tmps.size)=true) {i:Nat} (hi:ops[i]? =some p.1) (hr:yN P E ops.toList p tm H=.ok tm₁ H'):
  ∃φ' w' tmps',DInv P φ₀ H₀ w₀ l' φ' H' w'∧φ.le φ'∧Later φ H H'∧TmR φ' tm₁ tmps'∧tmps'.size=tmps.size:=by
 obtain⟨a',w',φ',h1,h4,h5,h2,h3⟩:=wpOp_exists (r:=none) (step_wp hC hD hG hb hI hp hs hk (a:=⟨tmps,[]⟩) htm hall hi hr (K:=fun a' w'=>∃φ',DInv P φ₀ H₀ w₀ l' φ' H' w'∧φ.le φ'∧Later φ H H'∧TmR φ' tm₁ a'.tmps∧a'.tmps.size=tmps.size)
  (fun a' φ' w' h1 h4 h5 h2 h3 _=>⟨φ',h1,h4,h5,h2,h3⟩))
 exact⟨φ',w',a'.tmps,h1,h4,h5,h2,h3⟩
theorem op_exists(hC:yi P E)(hD:zo P E)(h:Rel P φ H w){tm:TT}{tmps:Array Value}(htm:TmR φ tm tmps){o:Oper}(hok:wF tmps.size o=true)(hr:evOp P E tm H o.op=.ok v H'):
  ∃φ' w',Rel P φ' H' w'∧Ext φ H w φ' H' w':=by
 have:=op_wp hC hD h (a:=⟨tmps,[]⟩) htm hok hr (next:=fun _ w'=>∃φ',Rel P φ' H' w'∧Ext φ H w φ' H' w') (Q:=NoQ) (r:=none) (fun φ' w' x h1 h2 _=>⟨φ',h1,h2⟩)
 obtain⟨_,w',φ',h1⟩:=zGM this.2
 exact⟨φ',w',h1⟩
def Lows(all:List Oper)(o:Oper):Prop:=(∀d,o.dst=some d→d<1024)∧∀t∈wT all o,t<1024
theorem lows{ops:Array Oper}{n:Nat}(hn:n≤1024)(hall:ops.toList.all (wF n)=true){o:Oper}(ho:o∈ops.toList):Lows ops.toList o:=by
 have hdst:∀(o:Oper),o∈ops.toList→∀d,o.dst=some d→d<1024:=by
  intro o ho d hd
  have:=(Bool.and_eq_true_iff.1 (List.all_eq_true.1 hall o ho)).1
  rw[hd]at this
  exact Nat.lt_of_lt_of_le (yu this) hn
 refine⟨hdst o ho,?_⟩
 intro t ht
 unfold wT at ht
 simp only[List.mem_append]at ht
 rcases ht with (ht|ht)|ht
 ·exact hdst o ho t (by cases hd:o.dst<;>simp_all)
 ·have h1:=zDV.1 ht
  have h2:=List.all_eq_true.1 (Bool.and_eq_true_iff.1 (List.all_eq_true.1 hall o ho)).2 _ (by simpa using h1)
  exact Nat.lt_of_lt_of_le (yu h2) hn
 ·split at ht
  ·rename_i g b hg
   split at ht
   ·rename_i p hp
    exact hdst p (List.mem_of_getElem? hp) t (by cases hd:p.dst<;>simp_all)
   ·simp at ht
  ·simp at ht
theorem zAr{all:List Oper}{o:Oper}(hl:Lows all o){tm:TT}{d:Option Nat}{x:V}(hd:∀i,d=some i→i<1024∧i ∉ wT all o):zBl all (setT tm d x) o.guard=zBl all tm o.guard:=by
 cases hg:o.guard with
 |none=>rfl
 |some g=>
  show zBs all (setT tm d x) g=zBs all tm g
  unfold zBs
  have:zDN all (setT tm d x) g.1=zDN all tm g.1:=by
   unfold zDN
   rw[zFy]
   cases hp:all[g.1]? with
   |none=>rfl
   |some p=>
    show opt none (fun d=>wB none (fun b=>some b) ((setT tm _ x).get d)) p.dst=opt none (fun d=>wB none (fun b=>some b) (tm.get d)) p.dst
    cases hpd:p.dst with
    |none=>rfl
    |some e=>
     have hmem:e∈wT all o:=by
      unfold wT
      rw[hg]
      simp only[List.mem_append]
      right
      simp[hp,hpd]
     show wB none (fun b=>some b) ((setT tm d x).get e)=wB none (fun b=>some b) (tm.get e)
     rw[zFs x tm (fun i hi=>(hd i hi).1) (hl.2 e hmem) (fun hde=>(hd e hde).2 hmem)]
  rw[this]
theorem zDY{all:List Oper}{o:Oper}(hl:Lows all o){md:Md}{tm:TT}{d:Option Nat}{x:V}(hd:∀i,d=some i→i<1024∧i ∉ wT all o):zAz P E (setT tm d x) H md o.op=zAz P E tm H md o.op:=by
 have hs:∀K:CH,evOp P E (setT tm d x) K o.op=evOp P E tm K o.op:=by
  intro K
  refine evOp_same (fun t ht=>?_)
  have hmem:t∈wT all o:=by unfold wT;simp only[List.mem_append];exact .inl (.inr ht)
  exact zFs x tm (fun i hi=>(hd i hi).1) (hl.2 t hmem) (fun hde=>(hd t hde).2 hmem)
 cases md with
 |plain=>exact hs H
 |quiet=>show thawR H.fz (evOp P E (setT tm d x) H.freeze o.op)=thawR H.fz (evOp P E tm H.freeze o.op);rw[hs]
 |read ld=>
  show R.rec (motive:=fun _=>R) .no (fun v _=>cond (cond ld true (zAE v)) (.ok v H) .no) (evOp P E (setT tm d x) H o.op)=R.rec (motive:=fun _=>R) .no (fun v _=>cond (cond ld true (zAE v)) (.ok v H) .no) (evOp P E tm H o.op)
  rw[hs]
 |pre i=>rfl
 |lay i=>
  show R.rec (motive:=fun _=>R) .no (fun v K=>.ok v (K.named H.n)) (evOp P E (setT tm d x) (H.named i) o.op)=R.rec (motive:=fun _=>R) .no (fun v K=>.ok v (K.named H.n)) (evOp P E tm (H.named i) o.op)
  rw[hs]
theorem Tr.put_comm(x y:Option Blk)(t:Tr)(a:Nat)(b c d e:D)(a':Nat)(b' c' d' e':D)(h: ¬ (a=a'∧b=b'∧c=c'∧d=d'∧e=e')):
  Tr.put x (Tr.put y t a' b' c' d' e') a b c d e=Tr.put y (Tr.put x t a b c d e) a' b' c' d' e':=by
 simp only[Tr.put,Tr.put1,Tr.put2,Tr.put3,Tr.put4]
 by_cases ha:a=a'
 ·subst ha
  simp only[Tr.get_set,if_true,Tr.set_set]
  congr 1
  by_cases hb:b=b'
  ·subst hb
   simp only[Tr4.get_set,if_true,Tr4.set_set]
   congr 1
   by_cases hc:c=c'
   ·subst hc
    simp only[Tr3.get_set,if_true,Tr3.set_set]
    congr 1
    by_cases hd:d=d'
    ·subst hd
     simp only[Tr2.get_set,if_true,Tr2.set_set]
     congr 1
     exact Tr1.set_comm _ _ _ _ (fun he=>h ⟨rfl,rfl,rfl,rfl,he⟩) _
    ·simp only[Tr2.get_set,if_neg hd,if_neg (Ne.symm hd)];rw[Tr2.set_comm _ _ _ _ hd]
   ·simp only[Tr3.get_set,if_neg hc,if_neg (Ne.symm hc)];rw[Tr3.set_comm _ _ _ _ hc]
  ·simp only[Tr4.get_set,if_neg hb,if_neg (Ne.symm hb)];rw[Tr4.set_comm _ _ _ _ hb]
 ·rw[Tr.get_set,if_neg ha,Tr.get_set,if_neg (Ne.symm ha),Tr.set_comm _ _ _ _ ha]
end Vam
