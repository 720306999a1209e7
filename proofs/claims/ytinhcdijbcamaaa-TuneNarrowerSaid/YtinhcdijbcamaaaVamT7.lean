import Derived.Test.YtinhcdijbcamaaaVamT6
set_option linter.unusedVariables false
set_option linter.unusedSimpArgs false
set_option linter.constructorNameAsVariable false
namespace Go.Proofs.Ytinhcdijbcamaaa.tuneNarrower
open Vam
section
variable {is:FuncId→Bool}{orc:Known}
theorem fld115_0:zr Try.prog 115 0=some (0,3):=by kernel_rfl
theorem fld115_1:zr Try.prog 115 1=some (1,3):=by kernel_rfl
theorem fld115_2:zr Try.prog 115 2=some (2,3):=by kernel_rfl
theorem wB:zr Try.prog 84 0=some (0,28):=by kernel_rfl
theorem pl115:plcOf Try.prog 115=some [(0,1),(1,1),(2,1)]:=by kernel_rfl
theorem sh107:shOf Try.prog 107=.one:=by kernel_rfl
theorem sh115:shOf Try.prog 115=.many 3:=by kernel_rfl
theorem sh131:shOf Try.prog 131=.one:=by kernel_rfl
theorem sh84:shOf Try.prog 84=.many 6:=by kernel_rfl
theorem ze115:yR Try.prog 115=some ((.cons (.int .i64 0) (.cons (.int .i64 0) (.cons (.int .i64 0) .nil))):V):=by kernel_rfl
theorem ze4:yR Try.prog 4=some ((.cons (.bool false) .nil):V):=by kernel_rfl
noncomputable def b104:Code:=(Try.f104.body).getD .skip
theorem body104:bodyOf Try.prog 104=some (62,b104,[.tmp 5]):=by kernel_rfl
theorem pure104:pureFn Try.prog 104=false:=by kernel_rfl
theorem ze107:yR Try.prog 107=some ((.cons .nilf .nil):V):=by kernel_rfl
theorem ze131:yR Try.prog 131=some ((.cons .nilm .nil):V):=by kernel_rfl
noncomputable def b88:Code:=(Try.f88.body).getD .skip
theorem body88:bodyOf Try.prog 88=some (8,b88,[.tmp 2]):=by kernel_rfl
theorem pure88:pureFn Try.prog 88=false:=by kernel_rfl
def y4:Code→Option (Code×Code)
 | .rangeFunc _ _ a b=>some (a,b)
 | .seq a b=>match y4 a with|some x=>some x|none=>y4 b
 | .cond _ a b=>match y4 a with|some x=>some x|none=>y4 b
 | .block _ b=>y4 b
 | .loop b=>y4 b
 | .scope b=>y4 b
 |_=>none
theorem up_le{n b y:Int}(hb:0<b)(hn:0≤n):upI n b≤y↔n≤b*y:=by
 unfold upI
 rw[Int.tdiv_eq_ediv_of_nonneg (by omega)]
 constructor
 ·intro h
  have h1:=Int.lt_ediv_add_one_mul_self (n+b - 1) hb
  have h2:((n+b - 1) / b+1)*b≤(y+1)*b:=Int.mul_le_mul_of_nonneg_right (by omega) (by omega)
  have h3:(y+1)*b=b*y+b:=by rw[Int.add_mul,Int.one_mul,Int.mul_comm]
  omega
 ·intro h
  have h1:n+b - 1<b*(y+1):=by rw[Int.mul_add,Int.mul_one];omega
  have:=Int.ediv_lt_of_lt_mul hb (show n+b - 1<(y+1)*b by rw[Int.mul_comm];exact h1)
  omega
theorem le_td{n b y:Int}(hb:0<b)(hn:0≤n):y≤n.tdiv b↔b*y≤n:=by
 rw[Int.tdiv_eq_ediv_of_nonneg hn,Int.le_ediv_iff_mul_le hb,Int.mul_comm]
theorem fit_kd{j:Jn}(h:JV j){x y:Int}(hx:1≤x):Fit j x y↔(j.kd=0∧j.lo*x≤1000*y∧1000*y≤j.hi*x)∨(j.kd=1∧1000*x≤j.hi*y∧j.lo*y≤1000*x)∨(j.kd=2∧x+j.lo≤y∧y≤x+j.hi)∨(j.kd=3∧x - j.hi≤y∧y≤x - j.lo):=by
 unfold Fit Jn.alo Jn.ahi
 unfold JV at h
 rcases h with ⟨h1|h1,h2⟩|⟨h1|h1,h2⟩
 ·have e1:=up_le (n:=j.lo*x) (b:=1000) (y:=y) (by decide) (Int.mul_nonneg (by omega) (by omega))
  have e2:=le_td (n:=j.hi*x) (b:=1000) (y:=y) (by decide) (Int.mul_nonneg (by omega) (by omega))
  simp[h1,e1,e2]
 ·have e1:=up_le (n:=1000*x) (b:=j.hi) (y:=y) (by omega) (by omega)
  have e2:=le_td (n:=1000*x) (b:=j.lo) (y:=y) (by omega) (by omega)
  simp[h1,e1,e2]
 ·simp[h1]
 ·simp[h1]
theorem fit_sym{j:Jn}(h:JV j){x y:Int}(hx:1≤x)(hy:1≤y):Fit j x y↔Fit j.bk y x:=by
 rw[fit_kd h hx,fit_kd h.bk hy]
 unfold JV at h
 rcases h with ⟨h1|h1,h2⟩|⟨h1|h1,h2⟩
 ·simp[h1,Jn.bk,bkI,and_comm]
 ·simp[h1,Jn.bk,bkI,and_comm]
 ·simp[h1,Jn.bk,bkI];omega
 ·simp[h1,Jn.bk,bkI];omega
def hloT(t:Ts)(v:Int):Int:=((t.heard[v.toNat]?).map Two.a).getD 1
def hhiT(t:Ts)(v:Int):Int:=((t.heard[v.toNat]?).map Two.b).getD 1
structure SOk(t:Ts)(J:List Jn):Prop where
 n1:1≤t.heard.length
 n8:t.heard.length≤8
 hd:∀q∈t.heard,1≤q.a∧q.a≤q.b∧q.b≤4000∧q.b - q.a≤40
 jv:∀j∈J,JV j
 jr:∀j∈J,(0≤j.one∧j.one<(t.heard.length:Int))∧(0≤j.two∧j.two<(t.heard.length:Int))
 jl:J.length≤64
 ac:Acy (EJ J)
theorem SOk.jn{t:Ts}{J:List Jn}(h:SOk t J):JN J (hloT t) t.heard.length:=by
 have n8:=h.n8
 refine⟨⟨h.ac,fun j hj=>?_,fun j hj x y hx hy=>fit_sym (h.jv j hj) hx hy⟩,h.n8,fun j hj=>⟨(h.jr j hj).1.2,(h.jr j hj).2.2⟩,fun v=>?_⟩
 ·have:=h.jr j hj;omega
 ·unfold hloT
  cases hq:t.heard[v.toNat]? with
  |none=>simp
  |some q=>have:=h.hd q (List.mem_of_getElem? hq);simp;omega
theorem SOk.key{t:Ts}{J:List Jn}(h:SOk t J){v:Int}(hv:0≤v∧v<(t.heard.length:Int)):∃q,t.heard[v.toNat]? =some q∧hloT t v=q.a∧hhiT t v=q.b∧1≤q.a∧q.a≤q.b∧q.b≤4000∧q.b - q.a≤40:=by
 have hl:v.toNat<t.heard.length:=by omega
 have hq:t.heard[v.toNat]? =some t.heard[v.toNat]:=List.getElem?_eq_getElem hl
 refine⟨_,hq,by unfold hloT;rw[hq];rfl,by unfold hhiT;rw[hq];rfl,h.hd _ (List.getElem_mem _)⟩
abbrev canS(t:Ts)(J:List Jn)(v x fr:Int):Bool:=canF J (hloT t) (hhiT t) 8 v x fr
abbrev z8(a b c:Int):U:=.agg [.int .i64 a,.int .i64 b,.int .i64 c]
def Memo(t:Ts)(J:List Jn)(es:List (U×U)):Prop:=∀p∈es,∃v x fr:Int,p=(z8 v x fr,.bool (canS t J v x fr))
theorem Memo.get{t:Ts}{J:List Jn}{es:List (U×U)}(h:Memo t J es){v x fr:Int}{u:U}(hg:getK es (z8 v x fr)=some u):u=.bool (canS t J v x fr):=by
 obtain⟨a,b,c,e⟩:=h _ (getK_mem hg)
 simp only[Prod.mk.injEq,U.agg.injEq,List.cons.injEq,U.int.injEq,true_and,and_true]at e
 obtain⟨⟨rfl,rfl,rfl⟩,rfl⟩:=e
 rfl
theorem Memo.put{t:Ts}{J:List Jn}{es:List (U×U)}(h:Memo t J es)(v x fr:Int):Memo t J (setK es (z8 v x fr) (.bool (canS t J v x fr))):=fun p hp=>by
 rcases mem_setK hp with rfl|hp
 ·exact⟨v,x,fr,rfl⟩
 ·exact h p hp
theorem eq115(a b c x y z:Int):eqT Try.prog 115 (valK (z8 a b c)) (valK (z8 x y z))=some ((a==x)&&((b==y)&&(c==z))):=by
 have h:eqT Try.prog 115 (valK (z8 a b c)) (valK (z8 x y z))=Vam.cond (ieq a x) (Vam.cond (ieq b y) (Vam.cond (ieq c z) (some true) (some false)) (some false)) (some false):=by kernel_rfl
 rw[h,ieq_eq,ieq_eq,ieq_eq]
 cases a==x<;>cases b==y<;>cases c==z<;>rfl
theorem same115(a b c:Int):sameV (valK (z8 a b c)) (valK (z8 a b c))=true:=by
 have h:sameV (valK (z8 a b c)) (valK (z8 a b c))=Vam.cond (ieq a a) (Vam.cond (ieq b b) (Vam.cond (ieq c c) true false) false) false:=by kernel_rfl
 rw[h,ieq_eq,ieq_eq,ieq_eq,show(a==a)=true by simp,show(b==b)=true by simp,show(c==c)=true by simp];rfl
theorem keyOk{t:Ts}{J:List Jn}{es:List (U×U)}(h:Memo t J es)(v x fr:Int):KeyOk Try.prog 115 (z8 v x fr) es:=by
 refine⟨rfl,?_,same115 _ _ _,fun p hp=>?_⟩
 ·kernel_rfl
 ·obtain⟨a,b,c,rfl⟩:=h p hp
  refine⟨rfl,_,eq115 _ _ _ _ _ _,?_⟩
  simp only[Bool.and_eq_true,beq_iff_eq,U.agg.injEq,List.cons.injEq,U.int.injEq,true_and,and_true]
  omega
theorem Memo.bd{t:Ts}{J:List Jn}{es:List (U×U)}(h:Memo t J es)(n:Nat):BdS n (.map es):=fun p hp=>by
 obtain⟨a,b,c,rfl⟩:=h p hp
 refine⟨Bd.agg fun u hu=>?_,Bd.bool _ _⟩
 simp only[List.mem_cons,List.not_mem_nil,or_false]at hu
 rcases hu with rfl|rfl|rfl<;>exact Bd.int _ _ _
structure FS(t:Ts)(J:List Jn)(kn mp sv cn:Nat)(Y:List SB):Prop where
 k:Y[kn]? =some (.box [.mp mp])
 m:∃es,Memo t J es∧Y[mp]? =some (.map es)
 s:Y[sv]? =some (.box (setC t J))
 c:Y[cn]? =some (.box [.fn 104 [] [.box kn 0,.box sv 0,.box cn 0]])
 bd:BdY Y
def Upd(t:Ts)(J:List Jn)(mp:Nat)(Y Z:List SB):Prop:=∃es,Memo t J es∧Z=Y.set mp (.map es)
variable {t:Ts}{J:List Jn}{kn mp sv cn:Nat}{Y Z:List SB}
theorem FS.ne(h:FS t J kn mp sv cn Y):kn≠mp∧sv≠mp∧cn≠mp:=by
 obtain⟨es,_,hm⟩:=h.m
 refine⟨fun e=>?_,fun e=>?_,fun e=>?_⟩
 ·have:=h.k;rw[e,hm]at this;cases this
 ·have:=h.s;rw[e,hm]at this;cases this
 ·have:=h.c;rw[e,hm]at this;cases this
theorem FS.upd(h:FS t J kn mp sv cn Y)(hu:Upd t J mp Y Z):FS t J kn mp sv cn Z:=by
 obtain⟨es,he,rfl⟩:=hu
 obtain⟨n1,n2,n3⟩:=h.ne
 obtain⟨es0,_,hm⟩:=h.m
 exact⟨z5 h.k n1.symm,⟨es,he,at_put hm⟩,z5 h.s n2.symm,z5 h.c n3.symm,h.bd.put (he.bd _)⟩
theorem FS.snoc(h:FS t J kn mp sv cn Y){x:SB}(hx:NBS x):FS t J kn mp sv cn (Y++[x]):=by
 obtain⟨es,he,hm⟩:=h.m
 exact⟨yF h.k,⟨es,he,yF hm⟩,yF h.s,yF h.c,h.bd.snoc hx⟩
theorem FS.app(h:FS t J kn mp sv cn Y){L:List SB}(hL:BdY (Y++L)):FS t J kn mp sv cn (Y++L):=by
 obtain⟨es,he,hm⟩:=h.m
 exact⟨yF h.k,⟨es,he,yF hm⟩,yF h.s,yF h.c,hL⟩
theorem FS.put(h:FS t J kn mp sv cn Y){i:Nat}{x:SB}(hx:BdS Y.length x)(hi:i≠kn∧i≠mp∧i≠sv∧i≠cn):FS t J kn mp sv cn (Y.set i x):=by
 obtain⟨es,he,hm⟩:=h.m
 exact⟨z5 h.k hi.1,⟨es,he,z5 hm hi.2.1⟩,z5 h.s hi.2.2.1,z5 h.c hi.2.2.2,h.bd.put hx⟩
theorem FS.lt(h:FS t J kn mp sv cn Y):kn<Y.length∧mp<Y.length∧sv<Y.length∧cn<Y.length:=by
 obtain⟨es,he,hm⟩:=h.m
 exact⟨ue h.k,ue hm,ue h.s,ue h.c⟩
theorem Upd.trans{A:List SB}(h:Upd t J mp Y Z)(k:Upd t J mp Z A):Upd t J mp Y A:=by
 obtain⟨e1,_,rfl⟩:=h
 obtain⟨e2,h2,rfl⟩:=k
 exact⟨e2,h2,by rw[List.set_set]⟩
theorem FS.refl(h:FS t J kn mp sv cn Y):Upd t J mp Y Y:=by
 obtain⟨es,he,hm⟩:=h.m
 refine⟨es,he,?_⟩
 have hl:=ue hm
 have:=(List.getElem?_eq_some_iff.1 hm).2
 rw[←this,List.set_getElem_self]
noncomputable def rg104:Code×Code:=(y4 b104).getD (.skip,.skip)
end
section
variable {is:FuncId→Bool}{orc:Known}
noncomputable def uE(kn sv cn A:Nat):Lp:=⟨fun i=>dg (lookU [(1,.box kn 0),(2,.box sv 0),(3,.box cn 0),(4,.box A 0),(8,.box (A+1) 0),(23,.fn 114 [] [.box (A+2) 0,.box (A+3) 0])] i .junk),[24],rg104.1,rg104.2⟩
theorem lookU_all{p:U→Prop}{l:List (Nat×U)}(h:∀x∈l,p x.2){d:U}(hd:p d)(i:Nat):p (lookU l i d):=by
 induction l with
 |nil=>exact hd
 |cons x l ih=>
  show p (Vam.cond (Nat.beq i x.1) x.2 (lookU l i d))
  cases Nat.beq i x.1 with
  |true=>exact h x List.mem_cons_self
  |false=>exact ih fun y hy=>h y (List.mem_cons_of_mem _ hy)
theorem lp104_bd{kn sv cn A:Nat}(h1:kn<A)(h2:sv<A)(h3:cn<A)(i:Nat):Bd (A+5) ((uE kn sv cn A).fr i):=by
 refine lookU_all (p:=fun u=>Bd (A+5) (dg u)) ?_ (Bd.junk _) i
 intro x hx
 simp only[List.mem_cons,List.not_mem_nil,or_false]at hx
 rcases hx with rfl|rfl|rfl|rfl|rfl|rfl
 ·exact Bd.box (by omega)
 ·exact Bd.box (by omega)
 ·exact Bd.box (by omega)
 ·exact Bd.box (by omega)
 ·exact Bd.box (by omega)
 ·refine Bd.fn (fun u hu=>by cases hu) fun u hu=>?_
  simp only[List.mem_cons,List.not_mem_nil,or_false]at hu
  rcases hu with rfl|rfl<;>exact Bd.box (by omega)
structure IV(t:Ts)(J:List Jn)(kn mp sv cn:Nat)(st:List SB)(v x fm:Int)(b:Bool)(q:Lq)(Y:List SB):Prop where
 fs:FS t J kn mp sv cn Y
 lt:kn<st.length∧mp<st.length∧sv<st.length∧cn<st.length
 len:st.length+5≤Y.length
 tk:Upd t J mp st (Y.take st.length)
 a0:Y[st.length]? =some (.box [.int .i64 v,.int .i64 x,.int .i64 fm])
 a1:Y[st.length+1]? =some (.box [.bool b])
 a2:Y[st.length+2]? =some (.box (setC t J))
 a3:Y[st.length+3]? =some (.box [.int .i64 v])
 a4:Y[st.length+4]? =some (.loop q (uE kn sv cn st.length))
variable {t:Ts}{J:List Jn}{kn mp sv cn:Nat}{st Y Z:List SB}{v x fm:Int}{b b':Bool}{q q':Lq}
theorem IV.snoc(h:IV t J kn mp sv cn st v x fm b q Y){z:SB}(hz:NBS z):IV t J kn mp sv cn st v x fm b q (Y++[z]):=
 ⟨h.fs.snoc hz,h.lt,by have:=h.len;simp;omega,by rw[List.take_append_of_le_length (by have:=h.len;omega)];exact h.tk,yF h.a0,yF h.a1,yF h.a2,yF h.a3,yF h.a4⟩
theorem IV.upd(h:IV t J kn mp sv cn st v x fm b q Y)(hu:Upd t J mp Y Z):IV t J kn mp sv cn st v x fm b q Z:=by
 have hf:=h.fs.upd hu
 obtain⟨es,he,rfl⟩:=hu
 obtain⟨l1,l2,l3,l4⟩:=h.lt
 refine⟨hf,h.lt,by rw[List.length_set];exact h.len,h.tk.trans ⟨es,he,?_⟩,z5 h.a0 (by omega),z5 h.a1 (by omega),z5 h.a2 (by omega),z5 h.a3 (by omega),z5 h.a4 (by omega)⟩
 rw[List.take_set]
theorem IV.loop(h:IV t J kn mp sv cn st v x fm b q Y)(q':Lq):IV t J kn mp sv cn st v x fm b q' (Y.set (st.length+4) (.loop q' (uE kn sv cn st.length))):=by
 obtain⟨l1,l2,l3,l4⟩:=h.lt
 refine⟨h.fs.put (fun i=>Bd.mono (lp104_bd l1 l3 l4 i) h.len) ⟨by omega,by omega,by omega,by omega⟩,h.lt,by rw[List.length_set];exact h.len,?_,z5 h.a0 (by omega),z5 h.a1 (by omega),z5 h.a2 (by omega),z5 h.a3 (by omega),at_put h.a4⟩
 rw[List.take_set_of_le (by omega)];exact h.tk
theorem IV.bool(h:IV t J kn mp sv cn st v x fm b q Y)(b':Bool):IV t J kn mp sv cn st v x fm b' q (Y.set (st.length+1) (.box [.bool b'])):=by
 obtain⟨l1,l2,l3,l4⟩:=h.lt
 refine⟨h.fs.put (fun c hc=>by rcases List.mem_singleton.1 hc with rfl;exact Bd.bool _ _) ⟨by omega,by omega,by omega,by omega⟩,h.lt,by rw[List.length_set];exact h.len,?_,z5 h.a0 (by omega),at_put h.a1,z5 h.a2 (by omega),z5 h.a3 (by omega),z5 h.a4 (by omega)⟩
 rw[List.take_set_of_le (by omega)];exact h.tk
theorem Upd.at{i:Nat}(h:Upd t J mp Y Z)(hi:i≠mp){z:SB}(hz:Y[i]? =some z):Z[i]? =some z:=by
 obtain⟨es,_,rfl⟩:=h
 exact z5 hz hi.symm
def ub(t:Ts)(J:List Jn)(v x fm:Int)(k:Jn):Bool:=decide (k.two=fm)||(rgI (max (k.alo x) (hloT t k.two)) (min (k.ahi x) (hhiT t k.two))).any fun y=>canS t J k.two y v
set_option maxHeartbeats 16000000 in
theorem round104(hi:Off is)(h:SOk t J){k:Jn}(hk:k∈see J v)(hx:1≤x∧x≤4000)
  (rec:k.two≠fm→∀(y:Int) (Y:List SB),1≤y∧y≤4000→FS t J kn mp sv cn Y→WpC Try.prog is orc 104 [z8 k.two y v,.box kn 0,.box sv 0,.box cn 0] Y fun u st'=>u=.bool (canS t J k.two y v)∧Upd t J mp Y st')
  (hY:IV t J kn mp sv cn st v x fm true .ready Y):
  WpY Try.prog is orc (st.length+4) (uE kn sv cn st.length) [k.u] Y fun u st'=>(ub t J v x fm k=true∧u=.bool true∧IV t J kn mp sv cn st v x fm true .ready st')∨(ub t J v x fm k=false∧u=.bool false∧IV t J kn mp sv cn st v x fm false (.done (.exit 0)) st'):=by
 show Wp _ _ _ rg104.1 _ _
 show Wp _ _ _ _ ⟨_,[],Y⟩ _
 refine k_region (zV rfl ze72 ?_)
 refine zN rfl (za _ _) sh72 rfl rfl rfl rfl rfl ?_
 refine zB ?_
 refine⟨rfl,?_,?_⟩
 ·show((Y++[_]).set Y.length (SB.box _))[st.length+4]? =_
  rw[yN];exact yF hY.a4
 have h1:=(hY.snoc (nbs_jn k)).loop .busy
 have hlen:=hY.len
 have h9:((Y++[SB.box [U.int .i64 k.kd,.int .i64 k.one,.int .i64 k.two,.int .i64 k.lo,.int .i64 k.hi]]).set (st.length+4) (.loop .busy (uE kn sv cn st.length)))[Y.length]? =some (.box [U.int .i64 k.kd,.int .i64 k.one,.int .i64 k.two,.int .i64 k.lo,.int .i64 k.hi]):=z5 (za _ _) (by omega)
 obtain⟨Z,hZ⟩:∃Z,Z=(Y++[SB.box [U.int .i64 k.kd,.int .i64 k.one,.int .i64 k.two,.int .i64 k.lo,.int .i64 k.hi]]).set (st.length+4) (.loop .busy (uE kn sv cn st.length)):=⟨_,rfl⟩
 rw[←hZ]at h1 h9
 refine zM [(1,.box kn 0),(2,.box sv 0),(3,.box cn 0),(4,.box st.length 0),(8,.box (st.length+1) 0),(9,.box Y.length 0)] Z (.c4 rfl rfl rfl rfl (.c2 rfl rfl (.nil rfl))) (by
  show(((Y++[_]).set Y.length (SB.box _)).set (st.length+4) _)=_
  rw[yN];exact hZ.symm) fun frr=>?_
 show Wp _ _ _ rg104.2 _ _
 have hzs:=h1.fs.s
 have hzc:=h1.fs.c
 have hz0:=h1.a0
 have had:=h.jn.ok.adj_rng (wV hk)
 have hkn:=(h.jn.adj (wV hk))
 obtain⟨q,hq,eq1,eq2,qb⟩:=h.key hkn
 have hkv:JV k:=by
  obtain⟨j,hj,⟨rfl,_⟩|⟨rfl,_⟩⟩:=wD.1 hk
  ·exact h.jv _ hj
  ·exact(h.jv _ hj).bk
 have q81:=ret81 (orc:=orc) hi hkv hx
 have q106:=ret106 (orc:=orc) hi (k.alo x) (k.ahi x) q.a q.b
 by_cases h2:k.two=fm
 ·refine zP ?_
  refine k_seq (kQ (zG rfl rfl wJ (zF rfl rfl h9 sh3 rfl ?_)))
  refine zG rfl rfl fld115_2 (zF rfl rfl hz0 sh3 rfl ?_)
  refine o_eql rfl rfl rfl (zB (k_cT rfl (decide_eq_true h2) ?_))
  refine yp ?_
  exact⟨h1.a4,.inl ⟨by unfold ub;rw[decide_eq_true h2];rfl,rfl,h1.loop .ready⟩⟩
 ·obtain⟨lo,hlo⟩:∃lo,lo=max (k.alo x) q.a:=⟨_,rfl⟩
  obtain⟨hh,hhh⟩:∃hh,hh=min (k.ahi x) q.b:=⟨_,rfl⟩
  have hg:ub t J v x fm k=(rgI lo hh).any fun y=>canS t J k.two y v:=by unfold ub;rw[decide_eq_false h2,eq1,eq2,hlo,hhh];rfl
  rw[←hlo,←hhh]at q106
  rw[hg]
  refine zP (k_seq (kQ (zG rfl rfl wJ (zF rfl rfl h9 sh3 rfl ?_))))
  refine zG rfl rfl fld115_2 (zF rfl rfl hz0 sh3 rfl ?_)
  refine o_eql rfl rfl rfl (zB (k_cF rfl (decide_eq_false h2) ?_))
  refine zW (k_seq (k_draw [.read true,.plain,.read true,.read false,.plain,.plain,.read true,.plain,.read true,.plain,.read true,.read false,.pre,.plain] (by kernel_rfl) (by kernel_rfl) (by kernel_rfl) ?_))
  refine zi rfl (zK rfl rfl h9 sh72 rfl (zB rfl)) ?_
  refine zE (zG rfl rfl fld115_1 (zB rfl)) ?_
  refine zi rfl (zF rfl rfl hz0 sh3 rfl (zB rfl)) ?_
  refine d_callR rfl q81 (wH _ _) (.lrefl _) ?_
  refine zE (zG rfl rfl wB (zB rfl)) ?_
  refine zE (zG rfl rfl yA (zB rfl)) ?_
  refine zi rfl (zF rfl rfl hzs sh22 rfl (zB rfl)) ?_
  refine zE (zG rfl rfl wJ (zB rfl)) ?_
  refine zi rfl (zF rfl rfl h9 sh3 rfl (zB rfl)) ?_
  refine zE (yr (u:=q.u) rfl ty22 rfl rfl (by omega) (by rw[List.getElem?_map,hq];rfl) cl26 (zB rfl)) ?_
  refine zi rfl (yC rfl rfl sh26 rfl (zB rfl)) ?_
  refine d_callR rfl q106 (wH _ _) (.lrefl _) ?_
  refine d_pre rfl ze26 ?_
  refine zE (zN rfl (za _ _) sh26 rfl rfl rfl rfl rfl (zB rfl)) ?_
  refine d_nil ?_
  refine zM [(1,.box kn 0),(2,.box sv 0),(3,.box cn 0),(4,.box (List.length st) 0),(8,.box (List.length st+1) 0),(9,.box (List.length Y) 0),(10,.box (List.length Z) 0),(25,.box (List.length Y) 2),(26,.int .i64 k.two),(27,.box (List.length st) 2),(28,.int .i64 fm),(30,.agg [.int .i64 k.kd,.int .i64 k.one,.int .i64 k.two,.int .i64 k.lo,.int .i64 k.hi]),(31,.box (List.length st) 1),(32,.int .i64 x),(33,z9 (Jn.alo k x) (Jn.ahi k x)),(34,.box sv 0),(35,.box sv 0),(36,.lst .ro 2 (zS t.heard)),(37,.box (List.length Y) 2),(38,.int .i64 k.two),(39,.eref [.int .i64 q.a,.int .i64 q.b] 0),(40,.agg [.int .i64 q.a,.int .i64 q.b]),(41,z9 lo hh)] (Z++[SB.box [.int .i64 lo,.int .i64 hh]]) (.c4 rfl rfl rfl rfl (.c4 rfl rfl rfl rfl (.c4 rfl rfl rfl rfl (.c4 rfl rfl rfl rfl (.c4 rfl rfl rfl rfl (.c2 rfl rfl (.cons rfl (.nil rfl)))))))) (yN _ _ _) fun fr=>?_
  refine k_seq (kQ (zG rfl rfl yJ (zF rfl rfl (za _ _) sh3 rfl ?_)))
  refine zC rfl (zB (zP ?_))
  have h3:=h1.snoc (z:=.box [.int .i64 lo,.int .i64 hh]) ⟨_,rfl,fun c hc=>by
   simp only[List.mem_cons,List.not_mem_nil,or_false]at hc
   rcases hc with rfl|rfl<;>exact NB.int _ _⟩
  obtain⟨l1,l2,l3,l4⟩:=hY.lt
  have hYZ:Y.length<Z.length:=ue h9
  refine k_loop (fun kk s2=>∃i:Nat,kk+i=(hh+1 - lo).toNat∧(∀i':Nat,i'<i→canS t J k.two (lo+i') v=false)∧IV t J kn mp sv cn st v x fm true .busy s2.st∧s2.st[Y.length]? =some (.box [U.int .i64 k.kd,.int .i64 k.one,.int .i64 k.two,.int .i64 k.lo,.int .i64 k.hi])∧s2.st[Z.length]? =some (.box [.int .i64 lo,.int .i64 hh])∧
   Holds s2 [(1,.box kn 0),(2,.box sv 0),(3,.box cn 0),(4,.box st.length 0),(8,.box (st.length+1) 0),(9,.box Y.length 0),(10,.box Z.length 0),(11,.int .i64 (lo+i))]) (fun kk s2 hI=>?_) (hh+1 - lo).toNat _ ⟨0,rfl,fun i' hi'=>absurd hi' (Nat.not_lt_zero _),h3,yF h9,za _ _,.c4 rfl rfl rfl rfl (.c2 rfl rfl (.cons rfl (.cons (by show U.int .i64 lo=.int .i64 (lo+(0:Nat));simp) (.nil rfl))))⟩
  obtain⟨i,hki,hno,hIV,hq9,hq10,hs2⟩:=hI
  generalize hst2:s2.st=W at hIV hq9 hq10
  refine zM _ _ hs2 hst2 fun fr2=>?_
  have hwc:=hIV.fs.c
  have hw0:=hIV.a0
  have hw1:=hIV.a1
  by_cases hle:lo+(i:Int)≤hh
  ·have hyb:1≤lo+(i:Int)∧lo+(i:Int)≤4000:=by omega
   have hcall:=rec h2 (lo+(i:Int)) W hyb hIV.fs
   refine k_seq (kQ (zA rfl (zG rfl rfl yh (zF rfl rfl hq10 sh3 rfl ?_))))
   refine o_leq rfl rfl rfl (zB (k_cT rfl (decide_eq_true (by omega)) (zW (k_seq (zP (kQ (zF rfl rfl hwc sh107 rfl ?_)))))))
   refine zG rfl rfl wJ (zF rfl rfl hq9 sh3 rfl ?_)
   refine zA rfl (zG rfl rfl fld115_0 (zF rfl rfl hw0 sh3 rfl ?_))
   refine yP rfl ze115 pl115 rfl rfl ?_
   refine o_callV rfl rfl hcall (.lrefl _) fun u st1 hM=>?_
   obtain⟨rfl,hU⟩:=hM
   have hIV1:=hIV.upd hU
   have hr9:=hU.at (by omega) hq9
   have hr10:=hU.at (by omega) hq10
   cases hc:canS t J k.two (lo+(i:Int)) v with
   |true=>
    refine zB (k_cT rfl rfl ?_)
    refine yp ?_
    exact⟨hIV1.a4,.inl ⟨List.any_eq_true.2 ⟨lo+(i:Int),uM.2 ⟨by omega,hle⟩,hc⟩,rfl,hIV1.loop .ready⟩⟩
   |false=>
    refine zB (k_cF rfl rfl ?_)
    refine zW (k_region (zA rfl ?_))
    refine o_add rfl rfl rfl (by unfold I64;omega) (zC rfl (zB ?_))
    exact⟨kk - 1,by omega,i+1,by omega,fun i' hi'=>by
     by_cases e:i'=i
     ·subst e;exact hc
     ·exact hno i' (by omega),hIV1,hr9,hr10,.c4 rfl rfl rfl rfl (.c2 rfl rfl (.cons rfl (.cons (congrArg (U.int .i64) (by omega)) (.nil rfl))))⟩
  ·refine k_seq ?_
   refine kQ (zA rfl (zG rfl rfl yh (zF rfl rfl hq10 sh3 rfl ?_)))
   refine o_leq rfl rfl rfl (zB (k_cF rfl (decide_eq_false (by omega)) (yp (kQ (o_store1 rfl hw1 sh4 rfl rfl ?_)))))
   refine zB ?_
   refine zM [(1,.box kn 0),(2,.box sv 0),(3,.box cn 0),(4,.box (List.length st) 0),(8,.box (List.length st+1) 0),(9,.box (List.length Y) 0),(10,.box (List.length Z) 0),(11,.int .i64 (lo+ ↑i)),(44,.int .i64 (lo+ ↑i)),(45,.box (List.length Z) 1),(46,.int .i64 hh)] (List.set W (List.length st+1) (SB.box [.bool false])) (.c4 rfl rfl rfl rfl (.c4 rfl rfl rfl rfl (.c2 rfl rfl (.cons rfl (.nil rfl))))) rfl fun fr=>?_
   refine yp ?_
   refine⟨(hIV.bool false).a4,.inr ⟨List.any_eq_false.2 fun y hy=>?_,rfl,(hIV.bool false).loop (.done (.exit 0))⟩⟩
   have hy:=uM.1 hy
   have:=hno (y - lo).toNat (by omega)
   rw[show lo+((y - lo).toNat:Int)=y by omega]at this
   simp[this]
end
section
variable {is:FuncId→Bool}{orc:Known}
theorem ty131:tyOf Try.prog 131=.map 115 4:=by kernel_rfl
theorem zv4:zeroV Try.prog 4=some (.bool false):=by kernel_rfl
variable {t:Ts}{J:List Jn}{kn mp sv cn:Nat}{st Y Z:List SB}{v x fm:Int}
theorem IV.keeps(h:SOk t J){fm:Int}(hx:1≤x∧x≤4000)
  (rec:∀(is:FuncId→Bool) (orc:Known),Off is→∀k,k∈see J v→k.two≠fm→∀(y:Int) (Y:List SB),1≤y∧y≤4000→FS t J kn mp sv cn Y→WpC Try.prog is orc 104 [z8 k.two y v,.box kn 0,.box sv 0,.box cn 0] Y fun u st'=>u=.bool (canS t J k.two y v)∧Upd t J mp Y st'):
  Keeps J t v (st.length+4) (st.length+2) (st.length+3) (uE kn sv cn st.length) (ub t J v x fm) (IV t J kn mp sv cn st v x fm true .ready) (IV t J kn mp sv cn st v x fm false (.done (.exit 0))):=
 ⟨fun Y hY=>hY.a2,fun Y hY=>hY.a3,fun Y hY=>hY.a4,fun Y hY=>by have:=hY.len;omega,fun Y z hY hz=>hY.snoc hz,fun i=>dg_noOwn _,⟨24,rfl,rfl⟩,
  fun is orc hi Y k hY hk=>round104 hi h hk hx (rec is orc hi k hk) hY⟩
theorem IV.cut{b:Bool}{q:Lq}{Y:List SB}(h:IV t J kn mp sv cn st v x fm b q Y):∃es,Memo t J es∧Y.take (st.length+4)=st.set mp (.map es)++[.box [.int .i64 v,.int .i64 x,.int .i64 fm],.box [.bool b],.box (setC t J),.box [.int .i64 v]]:=by
 obtain⟨es,he,e⟩:=h.tk
 refine⟨es,he,?_⟩
 rw[show st.length+4=st.length+1+1+1+1 by omega,List.take_add_one,List.take_add_one,List.take_add_one,List.take_add_one,h.a0,h.a1,h.a2,h.a3,e]
 simp
set_option maxHeartbeats 16000000 in
theorem wpc104(h:SOk t J):∀(m:Nat) (is:FuncId→Bool) (orc:Known),Off is→∀(v x:Int) (l:List Int) (st:List SB),Way (EJ J) (v::l)→0≤v∧v<(t.heard.length:Int)→8≤m+l.length→1≤x∧x≤4000→FS t J kn mp sv cn st→
  WpC Try.prog is orc 104 [z8 v x (frm l),.box kn 0,.box sv 0,.box cn 0] st fun u st'=>u=.bool (canS t J v x (frm l))∧Upd t J mp st st':=by
 intro m
 induction m with
 |zero=>
  intro is orc hi v x l st hw hv hm hx hF
  have:=h.jn.ok.way_len hw (by have:=h.n8;omega)
  omega
 |succ m ih=>
  intro is orc hi v x l st hw hv hm hx hF
  have hv8:0≤v∧v<8:=by have:=h.n8;omega
  have heq:=h.jn.ok.eqn (hl:=hloT t) (hh:=hhiT t) (x:=x) hw hv8
  have hgood:canS t J v x (frm l)=(see J v).all (ub t J v x (frm l)):=heq
  have hrec:∀(is:FuncId→Bool) (orc:Known),Off is→∀k,k∈see J v→k.two≠frm l→∀(y:Int) (Y:List SB),1≤y∧y≤4000→FS t J kn mp sv cn Y→WpC Try.prog is orc 104 [z8 k.two y v,.box kn 0,.box sv 0,.box cn 0] Y fun u st'=>u=.bool (canS t J k.two y v)∧Upd t J mp Y st':=fun is orc hi k hk hne y Y hy hFY=>
   ih is orc hi k.two y (v::l) Y (h.jn.ok.next hw hk hne) (h.jn.adj (wV hk)) (by simp;omega) hy hFY
  obtain⟨es,hes,hmp⟩:=hF.m
  have hkn:=hF.k
  have hsv:=hF.s
  have hlt:=hF.lt
  refine wpc_cut body104 pure104 rfl rfl ?_
  generalize hfm:frm l=fm at*
  have hko:=keyOk hes v x fm
  refine kQ (yH rfl rfl (zC rfl (zB ?_)))
  refine zM [(1,.box kn 0),(2,.box sv 0),(3,.box cn 0),(4,.box st.length 0),(5,.bool false)] (st++[.box [.int .i64 v,.int .i64 x,.int .i64 fm]]) (.c4 rfl rfl rfl rfl (.cons rfl (.nil rfl))) rfl fun frx=>?_
  refine k_scope (k_seq (kQ (zF rfl rfl (yF hkn) sh131 rfl ?_)))
  refine zK rfl rfl (za _ _) sh115 rfl ?_
  have hmp1:(st++[SB.box [.int .i64 v,.int .i64 x,.int .i64 fm]])[mp]? =some (.map es):=yF hmp
  cases hg:getK es (z8 v x fm)with
  |some u=>
   have hu:=hes.get hg
   refine o_lookup (kt:=115) (el:=4) (z:=.bool false) (r:=.tup [.bool (canS t J v x fm),.bool true]) rfl ty131 rfl hmp1 rfl hko zv4 rfl (fun m hm=>by cases hm) (by show _=match getK es (z8 v x fm)with|some u=>_|none=>_;rw[hg,hu];rfl) ?_
   refine zA rfl (zY rfl rfl rfl (zY rfl rfl rfl (zC rfl (zC rfl (zB (kQ (zA rfl (zB ?_))))))))
   refine k_cT rfl rfl ?_
   refine kQ (zA rfl (zC rfl (zB (ze ?_))))
   refine⟨fun l h=>(by cases h),.inr rfl,_,.cons _ _ _ _ (.tmp 5) .nil,_,.refl _,Bd.bool _ _,?_,?_,rfl,?_⟩
   ·show st.length≤(st++[SB.box [.int .i64 v,.int .i64 x,.int .i64 fm]]).length;simp
   ·show ∀y∈(st++[SB.box [.int .i64 v,.int .i64 x,.int .i64 fm]]).take st.length,BdS st.length y
    rw[List.take_left];exact hF.bd
   ·show Upd t J mp st ((st++[SB.box [.int .i64 v,.int .i64 x,.int .i64 fm]]).take st.length)
    rw[List.take_left];exact hF.refl
  |none=>
   refine o_lookup (kt:=115) (el:=4) (z:=.bool false) (r:=.tup [.bool false,.bool false]) rfl ty131 rfl hmp1 rfl hko zv4 rfl (fun m hm=>by cases hm) (by show _=match getK es (z8 v x fm)with|some u=>_|none=>_;rw[hg];rfl) ?_
   refine zA rfl (zY rfl rfl rfl (zY rfl rfl rfl (zC rfl (zC rfl (zB (kQ (zA rfl (zB ?_))))))))
   refine k_cF rfl rfl ?_
   refine zW (kQ (zV rfl ze4 ?_))
   refine o_store1 rfl (za _ _) sh4 rfl rfl ?_
   refine zB ?_
   refine zM [(1,.box kn 0),(2,.box sv 0),(3,.box cn 0),(4,.box (List.length st) 0),(8,.box (List.length (st++[SB.box [.int .i64 v,.int .i64 x,.int .i64 fm]])) 0)] (st++[SB.box [.int .i64 v,.int .i64 x,.int .i64 fm]]++[SB.box [.bool true]]) (.c4 rfl rfl rfl rfl (.cons rfl (.nil rfl))) (yN _ _ _) fun fr=>?_
   refine k_seq (k_label ?_)
   refine zM [(1,.box kn 0),(2,.box sv 0),(3,.box cn 0),(4,.box st.length 0),(8,.box (st.length+1) 0)] (st++[.box [.int .i64 v,.int .i64 x,.int .i64 fm],.box [.bool true]]) (.c4 rfl rfl rfl rfl (.cons (by show U.box (st++[SB.box _]).length 0=_;simp) (.nil rfl))) (by
    show(st++[SB.box [.int .i64 v,.int .i64 x,.int .i64 fm]])++[SB.box [.bool true]]=_
    rw[List.append_assoc];rfl) fun frx=>?_
   have hsv1:(st++[SB.box [.int .i64 v,.int .i64 x,.int .i64 fm],.box [.bool true]])[sv]? =some (.box (setC t J)):=yF hsv
   have hsp1:(st++[SB.box [.int .i64 v,.int .i64 x,.int .i64 fm],.box [.bool true]])[st.length]? =some (.box [.int .i64 v,.int .i64 x,.int .i64 fm]):=by
    rw[List.getElem?_append_right (Nat.le_refl _),Nat.sub_self];rfl
   refine k_seq (kQ (zK rfl rfl hsv1 sh84 rfl ?_))
   refine zG rfl rfl fld115_0 (zF rfl rfl hsp1 sh3 rfl ?_)
   refine o_callW rfl (wpc105 t J v _) (.lrefl _) (fun u st1 hM=>?_)
   obtain⟨rfl,rfl⟩:=hM
   refine zB (zP ?_)
   refine k_forget [(1,.box kn 0),(2,.box sv 0),(3,.box cn 0),(4,.box st.length 0),(8,.box (st.length+1) 0),(23,.fn 114 [] [.box (st.length+2) 0,.box (st.length+3) 0])] (st++[.box [.int .i64 v,.int .i64 x,.int .i64 fm],.box [.bool true],.box (setC t J),.box [.int .i64 v]]) (.c4 rfl rfl rfl rfl (.cons rfl (.cons (by show U.fn 114 [] [.box (st++[_,_]).length 0,.box ((st++[_,_]).length+1) 0]=_;simp) (.nil rfl)))) (by
    show(st++[_,_])++[_,_]=_;rw[List.append_assoc];rfl) ?_
   have hlen4:(st++[SB.box [.int .i64 v,.int .i64 x,.int .i64 fm],.box [.bool true],.box (setC t J),.box [.int .i64 v]]).length=st.length+4:=by simp
   have hbd4:∀(b:Bool) (es:List (U×U)),Memo t J es→∀y∈st.set mp (.map es)++[SB.box [.int .i64 v,.int .i64 x,.int .i64 fm],.box [.bool b],.box (setC t J),.box [.int .i64 v]],BdS (st.length+4) y:=fun b es he y hy=>by
    rcases List.mem_append.1 hy with hy|hy
    ·have:=(hF.bd.put (he.bd st.length)) y hy
     rw[List.length_set]at this
     exact BdS.mono this (by omega)
    ·simp only[List.mem_cons,List.not_mem_nil,or_false]at hy
     rcases hy with rfl|rfl|rfl|rfl
     ·intro c hc;simp only[List.mem_cons,List.not_mem_nil,or_false]at hc;rcases hc with rfl|rfl|rfl<;>exact Bd.int _ _ _
     ·intro c hc;rcases List.mem_singleton.1 hc with rfl;exact Bd.bool _ _
     ·exact(wO t J).bd _
     ·intro c hc;rcases List.mem_singleton.1 hc with rfl;exact Bd.int _ _ _
   have hIV0:IV t J kn mp sv cn st v x fm true .ready ((st++[SB.box [.int .i64 v,.int .i64 x,.int .i64 fm],.box [.bool true],.box (setC t J),.box [.int .i64 v]])++[.loop .ready (uE kn sv cn st.length)]):=by
    have hb:BdY (st++[SB.box [.int .i64 v,.int .i64 x,.int .i64 fm],.box [.bool true],.box (setC t J),.box [.int .i64 v],.loop .ready (uE kn sv cn st.length)]):=fun y hy=>by
     have hl5:(st++[SB.box [.int .i64 v,.int .i64 x,.int .i64 fm],.box [.bool true],.box (setC t J),.box [.int .i64 v],.loop .ready (uE kn sv cn st.length)]).length=st.length+5:=by simp
     rw[hl5]
     obtain⟨e0,he0,hr0⟩:=hF.refl
     rcases List.mem_append.1 hy with hy|hy
     ·exact BdS.mono (hF.bd y hy) (by omega)
     ·simp only[List.mem_cons,List.not_mem_nil,or_false]at hy
      rcases hy with rfl|rfl|rfl|rfl|rfl
      ·intro c hc;simp only[List.mem_cons,List.not_mem_nil,or_false]at hc;rcases hc with rfl|rfl|rfl<;>exact Bd.int _ _ _
      ·intro c hc;rcases List.mem_singleton.1 hc with rfl;exact Bd.bool _ _
      ·exact(wO t J).bd _
      ·intro c hc;rcases List.mem_singleton.1 hc with rfl;exact Bd.int _ _ _
      ·exact lp104_bd hlt.1 hlt.2.2.1 hlt.2.2.2
    rw[List.append_assoc]
    refine⟨hF.app hb,hlt,by simp,?_,?_,?_,?_,?_,?_⟩
    ·rw[List.take_left];exact hF.refl
    ·rw[List.getElem?_append_right (by omega),Nat.sub_self];rfl
    ·rw[List.getElem?_append_right (by omega),show st.length+1 - st.length=1 by omega];rfl
    ·rw[List.getElem?_append_right (by omega),show st.length+2 - st.length=2 by omega];rfl
    ·rw[List.getElem?_append_right (by omega),show st.length+3 - st.length=3 by omega];rfl
    ·rw[List.getElem?_append_right (by omega),show st.length+4 - st.length=4 by omega];rfl
   have hkp:=IV.keeps (st:=st) (kn:=kn) (mp:=mp) (sv:=sv) (cn:=cn) h hx hrec
   have hw114:=wpc114 (orc:=orc) hi hkp h.jl h.jv _ hIV0
   refine k_range (g:=114) rfl ?_
   show WpC _ _ _ 114 ([]++([.yld (st++[SB.box [.int .i64 v,.int .i64 x,.int .i64 fm],.box [.bool true],.box (setC t J),.box [.int .i64 v]]).length]++[.box (st.length+2) 0,.box (st.length+3) 0])) _ _
   rw[hlen4]
   refine hw114.mono fun _ st' hM=>?_
   rcases hM with ⟨hall,hI⟩|⟨hall,hI⟩
   ·obtain⟨es2,hes2,hcut⟩:=hI.cut
    have hb:true=canS t J v x fm:=by rw[hgood,hall]
    have hne:=hF.ne
    have k1:(st.set mp (.map es2)++[SB.box [.int .i64 v,.int .i64 x,.int .i64 fm],.box [.bool true],.box (setC t J),.box [.int .i64 v]])[kn]? =some (.box [.mp mp]):=yF (z5 hkn hne.1.symm)
    have k2:(st.set mp (.map es2)++[SB.box [.int .i64 v,.int .i64 x,.int .i64 fm],.box [.bool true],.box (setC t J),.box [.int .i64 v]])[mp]? =some (.map es2):=yF (at_put hmp)
    have k3:(st.set mp (.map es2)++[SB.box [.int .i64 v,.int .i64 x,.int .i64 fm],.box [.bool true],.box (setC t J),.box [.int .i64 v]])[st.length]? =some (.box [.int .i64 v,.int .i64 x,.int .i64 fm]):=by
     rw[List.getElem?_append_right (by simp),List.length_set,Nat.sub_self];rfl
    have k4:(st.set mp (.map es2)++[SB.box [.int .i64 v,.int .i64 x,.int .i64 fm],.box [.bool true],.box (setC t J),.box [.int .i64 v]])[st.length+1]? =some (.box [.bool true]):=by
     rw[List.getElem?_append_right (by simp),List.length_set,show st.length+1 - st.length=1 by omega];rfl
    refine⟨.ready,hI.a4,?_,?_⟩
    ·show ∀y∈st'.take (st.length+4),BdS (st.length+4) y
     rw[hcut];exact hbd4 true es2 hes2
    ·refine zM [(1,.box kn 0),(4,.box st.length 0),(8,.box (st.length+1) 0)] (st.set mp (.map es2)++[SB.box [.int .i64 v,.int .i64 x,.int .i64 fm],.box [.bool true],.box (setC t J),.box [.int .i64 v]]) (.c2 rfl rfl (.cons rfl (.nil rfl))) (by show st'.take (st.length+4)=_;exact hcut) fun frx=>?_
     refine kQ (zF rfl rfl k1 sh131 rfl ?_)
     refine zK rfl rfl k3 sh115 rfl ?_
     refine zF rfl rfl k4 sh4 rfl ?_
     refine o_mapUpdate (kt:=115) (el:=4) (ps:=es2) (key:=z8 v x fm) rfl ty131 rfl k2 rfl (keyOk hes2 v x fm) ?_
     refine zB ?_
     have hput:=hes2.put v x fm
     rw[←hb]at hput
     refine zM [(8,.box (st.length+1) 0)] (st.set mp (.map (setK es2 (z8 v x fm) (.bool true)))++[SB.box [.int .i64 v,.int .i64 x,.int .i64 fm],.box [.bool true],.box (setC t J),.box [.int .i64 v]]) (.cons rfl (.nil rfl)) (by
      show(st.set mp (.map es2)++[SB.box [.int .i64 v,.int .i64 x,.int .i64 fm],.box [.bool true],.box (setC t J),.box [.int .i64 v]]).set mp (.map (setK es2 (z8 v x fm) (.bool true)))=_
      rw[List.set_append_left _ _ (by rw[List.length_set];exact hlt.2.1),List.set_set]) fun frx=>?_
     refine kQ ?_
     refine zF rfl rfl (cs:=[.bool true]) (by
      show(st.set mp _++[SB.box _,.box [.bool true],.box _,.box _])[st.length+1]? =_
      rw[List.getElem?_append_right (by simp),List.length_set,show st.length+1 - st.length=1 by omega];rfl) sh4 rfl ?_
     refine zC rfl (zB (ze ?_))
     have htk:(st.set mp (.map (setK es2 (z8 v x fm) (.bool true)))++[SB.box [.int .i64 v,.int .i64 x,.int .i64 fm],.box [.bool true],.box (setC t J),.box [.int .i64 v]]).take st.length=st.set mp (.map (setK es2 (z8 v x fm) (.bool true))):=by
      rw[List.take_left' (by simp)]
     refine⟨fun l h=>(by cases h),.inr rfl,_,.cons _ _ _ _ (.tmp 5) .nil,_,.refl _,Bd.bool _ _,?_,?_,congrArg U.bool hb,?_⟩
     ·show st.length≤(st.set mp _++[SB.box _,.box [.bool true],.box _,.box _]).length
      simp
     ·show ∀y∈(st.set mp (.map (setK es2 (z8 v x fm) (.bool true)))++[SB.box [.int .i64 v,.int .i64 x,.int .i64 fm],.box [.bool true],.box (setC t J),.box [.int .i64 v]]).take st.length,BdS st.length y
      rw[htk]
      have:=hF.bd.put (hput.bd st.length) (i:=mp)
      unfold BdY at this
      rw[List.length_set]at this
      exact this
     ·show Upd t J mp st ((st.set mp (.map (setK es2 (z8 v x fm) (.bool true)))++[SB.box [.int .i64 v,.int .i64 x,.int .i64 fm],.box [.bool true],.box (setC t J),.box [.int .i64 v]]).take st.length)
      rw[htk]
      exact⟨_,hput,rfl⟩
   ·obtain⟨es2,hes2,hcut⟩:=hI.cut
    have hb:false=canS t J v x fm:=by rw[hgood,hall]
    have hne:=hF.ne
    have k1:(st.set mp (.map es2)++[SB.box [.int .i64 v,.int .i64 x,.int .i64 fm],.box [.bool false],.box (setC t J),.box [.int .i64 v]])[kn]? =some (.box [.mp mp]):=yF (z5 hkn hne.1.symm)
    have k2:(st.set mp (.map es2)++[SB.box [.int .i64 v,.int .i64 x,.int .i64 fm],.box [.bool false],.box (setC t J),.box [.int .i64 v]])[mp]? =some (.map es2):=yF (at_put hmp)
    have k3:(st.set mp (.map es2)++[SB.box [.int .i64 v,.int .i64 x,.int .i64 fm],.box [.bool false],.box (setC t J),.box [.int .i64 v]])[st.length]? =some (.box [.int .i64 v,.int .i64 x,.int .i64 fm]):=by
     rw[List.getElem?_append_right (by simp),List.length_set,Nat.sub_self];rfl
    have k4:(st.set mp (.map es2)++[SB.box [.int .i64 v,.int .i64 x,.int .i64 fm],.box [.bool false],.box (setC t J),.box [.int .i64 v]])[st.length+1]? =some (.box [.bool false]):=by
     rw[List.getElem?_append_right (by simp),List.length_set,show st.length+1 - st.length=1 by omega];rfl
    refine⟨.done (.exit 0),hI.a4,?_,?_⟩
    ·show ∀y∈st'.take (st.length+4),BdS (st.length+4) y
     rw[hcut];exact hbd4 false es2 hes2
    ·refine zM [(1,.box kn 0),(4,.box st.length 0),(8,.box (st.length+1) 0)] (st.set mp (.map es2)++[SB.box [.int .i64 v,.int .i64 x,.int .i64 fm],.box [.bool false],.box (setC t J),.box [.int .i64 v]]) (.c2 rfl rfl (.cons rfl (.nil rfl))) (by show st'.take (st.length+4)=_;exact hcut) fun frx=>?_
     refine kQ (zF rfl rfl k1 sh131 rfl ?_)
     refine zK rfl rfl k3 sh115 rfl ?_
     refine zF rfl rfl k4 sh4 rfl ?_
     refine o_mapUpdate (kt:=115) (el:=4) (ps:=es2) (key:=z8 v x fm) rfl ty131 rfl k2 rfl (keyOk hes2 v x fm) ?_
     refine zB ?_
     have hput:=hes2.put v x fm
     rw[←hb]at hput
     refine zM [(8,.box (st.length+1) 0)] (st.set mp (.map (setK es2 (z8 v x fm) (.bool false)))++[SB.box [.int .i64 v,.int .i64 x,.int .i64 fm],.box [.bool false],.box (setC t J),.box [.int .i64 v]]) (.cons rfl (.nil rfl)) (by
      show(st.set mp (.map es2)++[SB.box [.int .i64 v,.int .i64 x,.int .i64 fm],.box [.bool false],.box (setC t J),.box [.int .i64 v]]).set mp (.map (setK es2 (z8 v x fm) (.bool false)))=_
      rw[List.set_append_left _ _ (by rw[List.length_set];exact hlt.2.1),List.set_set]) fun frx=>?_
     refine kQ ?_
     refine zF rfl rfl (cs:=[.bool false]) (by
      show(st.set mp _++[SB.box _,.box [.bool false],.box _,.box _])[st.length+1]? =_
      rw[List.getElem?_append_right (by simp),List.length_set,show st.length+1 - st.length=1 by omega];rfl) sh4 rfl ?_
     refine zC rfl (zB (ze ?_))
     have htk:(st.set mp (.map (setK es2 (z8 v x fm) (.bool false)))++[SB.box [.int .i64 v,.int .i64 x,.int .i64 fm],.box [.bool false],.box (setC t J),.box [.int .i64 v]]).take st.length=st.set mp (.map (setK es2 (z8 v x fm) (.bool false))):=by
      rw[List.take_left' (by simp)]
     refine⟨fun l h=>(by cases h),.inr rfl,_,.cons _ _ _ _ (.tmp 5) .nil,_,.refl _,Bd.bool _ _,?_,?_,congrArg U.bool hb,?_⟩
     ·show st.length≤(st.set mp _++[SB.box _,.box [.bool false],.box _,.box _]).length
      simp
     ·show ∀y∈(st.set mp (.map (setK es2 (z8 v x fm) (.bool false)))++[SB.box [.int .i64 v,.int .i64 x,.int .i64 fm],.box [.bool false],.box (setC t J),.box [.int .i64 v]]).take st.length,BdS st.length y
      rw[htk]
      have:=hF.bd.put (hput.bd st.length) (i:=mp)
      unfold BdY at this
      rw[List.length_set]at this
      exact this
     ·show Upd t J mp st ((st.set mp (.map (setK es2 (z8 v x fm) (.bool false)))++[SB.box [.int .i64 v,.int .i64 x,.int .i64 fm],.box [.bool false],.box (setC t J),.box [.int .i64 v]]).take st.length)
      rw[htk]
      exact⟨_,hput,rfl⟩
end
end Go.Proofs.Ytinhcdijbcamaaa.tuneNarrower
