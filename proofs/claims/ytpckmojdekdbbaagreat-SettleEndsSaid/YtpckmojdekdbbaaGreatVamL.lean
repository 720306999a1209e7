import Derived.Test.YtpckmojdekdbbaaGreatVamK
set_option linter.unusedVariables false
set_option linter.unusedSimpArgs false
namespace Vam
open Go
variable {Pr:Prt}{φ φ':BMap}{S S':SMap}{s s':St}{tm tm':TT}{H H':CH}{P:Program}{is:FuncId→Bool}{orc:Known}
noncomputable def zHN(P:Program)(t:TypeId):Option (List (Nat×Nat)):=match tyOf P t with
 | .struct fs=>some (fs.map fun f=>(f.offset,P.cellsOf f.type))
 | .array n e=>some ((List.range n).map fun i=>(i*P.cellsOf e,P.cellsOf e))
 |_=>none
noncomputable def fillU(pl:List (Nat×Nat)):List (Nat×U)→List U→Option (List U)
 |[],cells=>some cells
 |(i,u)::ps,cells=>match pl[i]? with
  |none=>none
  |some (off,sz)=>cond (Nat.beq (zx u).length sz) (cond (Nat.ble (off+sz) cells.length) (fillU pl ps (cells.take off++(zx u).map dg++cells.drop (off+sz))) none) none
noncomputable def partsU(s:St)(ps:List (Nat×Operand)):List (Nat×U):=ps.map fun p=>(p.1,zQ s p.2)
theorem zGi{α:Type}(l:List α)(n:Nat):nthO l n=l[n]? :=by
 induction l generalizing n with
 |nil=>simp;rfl
 |cons x l ih=>cases n with
  |zero=>simp;rfl
  |succ n=>show nthO l n=_;rw[ih];simp
theorem plc_of{t:TypeId}{pl:List (Nat×Nat)}(h:zHN P t=some pl):∃place,zGb P t=some place∧∀i x,pl[i]? =some x→place i=some x:=by
 unfold zHN at h
 unfold zGb
 split at h
 ·rename_i fs hf
  cases h
  refine⟨_,by rw[hf],fun i x hx=>?_⟩
  rw[zGi,←hx,List.getElem?_map]
  cases fs[i]? <;>rfl
 ·rename_i n e hf
  cases h
  refine⟨_,by rw[hf],fun i x hx=>?_⟩
  rw[List.getElem?_map]at hx
  cases hq:(List.range n)[i]? with
  |none=>rw[hq]at hx;cases hx
  |some j=>
   rw[hq]at hx
   obtain⟨h1,h2⟩:=List.getElem?_eq_some_iff.1 hq
   simp only[List.getElem_range]at h2
   subst h2;exact hx
 ·cases h
theorem fill_run{place:Nat→Option (Nat×Nat)}{pl:List (Nat×Nat)}(hp:∀i x,pl[i]? =some x→place i=some x)(hs:SR Pr φ S s tm H):∀(ps:List (Nat×Operand)) {m:List V} {cs cs':List U},LU φ S m cs→
  (ps.all fun p=>zDu (zQ s p.2))=true→fillU pl (partsU s ps) cs=some cs'→∃m',zFH place (zW tm ps) (zF m)=some (zF m')∧LU φ S m' cs':=by
 intro ps
 induction ps with
 |nil=>intro m cs cs' hm _ h;cases h;exact⟨m,rfl,hm⟩
 |cons p ps ih=>
  intro m cs cs' hm hj h
  simp only[List.all_cons,Bool.and_eq_true]at hj
  obtain⟨c,h1,h2⟩:=cells_of (zK hs p.2) hj.1
  have h:fillU pl ((p.1,zQ s p.2)::partsU s ps) cs=some cs':=h
  rw[fillU]at h
  split at h
  ·cases h
  ·rename_i off sz hpl
   obtain⟨h3,h4⟩:=zH h (by simp)
   obtain⟨h5,h6⟩:=zH h4 (by simp)
   have h3:=zl h3
   have h5:=Nat.le_of_ble_eq_true h5
   have hc:=h2.len
   have hm':=hm.len
   have hcs:c.length=sz:=by omega
   have e2:LU φ S (m.take off++c++m.drop (off+c.length)) (cs.take off++(zx (zQ s p.2)).map dg++cs.drop (off+sz)):=by
    rw[hcs]
    exact((hm.take off).append (LU.dgs h2)).append (hm.drop _)
   obtain⟨m',g1,g2⟩:=ih e2 hj.2 h6
   refine⟨m',?_,g2⟩
   rw[zBp,zFG,hp p.1 _ hpl]
   show cond (Nat.beq (lenV (zBF (zG tm p.2)) 0) sz) (opt none (zFH place (zW tm ps)) (putV (zF m) off (zBF (zG tm p.2)))) none=_
   rw[h1,zBV,Nat.add_zero,hcs,Nat.beq_refl,putV_of m off c (by omega)]
   exact g1
section lits
variable {all l:List Oper}{d:Nat}{x y:Operand}{t t' xt yt ft el:TypeId}{p:String}{e:Array Edge}{f a off fo n c:Nat}{cs us es:List U}{u:U}{Q:St→Prop}{z:V}{kd:Kd}
theorem zZ{ps:Array (Nat×Operand)}{pl:List (Nat×Nat)}(hd:Nat.blt d 1024=true)(hz:yf P t'=some z)(hp:zHN P t'=some pl)(hj:(ps.toList.all fun p=>zDu (zQ s p.2))=true)
  (hf:fillU pl (partsU s ps.toList) (zBu z)=some cs) (k:WpO P is orc all l (s.put d (.agg cs)) Q):WpO P is orc all (⟨some d,.build t' ps,t,p,e,none⟩::l) s Q:=by
 obtain⟨m,rfl⟩:=zEF hz
 obtain⟨place,h1,h2⟩:=plc_of hp
 refine wm hd (fun w=>rfl) (fun Pr φ S tm H hs=>?_) k
 obtain⟨m',h3,h4⟩:=fill_run h2 hs ps.toList (zCs m) hj hf
 refine⟨.agg (zF m'),fun E=>?_,.agg _ _ h4⟩
 show zET P t' (zW tm ps.toList) H=_
 unfold zET
 rw[hz,h1]
 show opt R.no (fun l=>R.ok (.agg l) H) (zFH place (zW tm ps.toList) (zF m))=_
 rw[h3];rfl
def seqB:Nat→List (Nat×Operand)→Bool
 |_,[]=>true
 |i,p::ps=>Nat.beq p.1 i&&seqB (i+1) ps
theorem repL_of(m:List V)(n:Nat):∃r,repL (zF m) n=zF r∧r.length=n*m.length:=by
 induction n with
 |zero=>exact⟨[],rfl,by simp⟩
 |succ n ih=>
  obtain⟨r,h1,h2⟩:=ih
  refine⟨m++r,?_,by simp[h2,Nat.succ_mul];omega⟩
  show appV (zF m) (repL (zF m) n)=_
  rw[h1,zED]
theorem seq_run(hs:SR Pr φ S s tm H){sz:Nat}:∀(ps:List (Nat×Operand)) {i:Nat} {dn rest:List V} {ds:List U},LU φ S dn ds→dn.length=i*sz→rest.length=ps.length*sz→
  (ps.all fun p=>zDu (zQ s p.2))=true→(ps.all fun p=>Nat.beq (zx (zQ s p.2)).length sz)=true→seqB i ps=true→
  ∃m',zFH (fun i=>some (i*sz,sz)) (zW tm ps) (zF (dn++rest))=some (zF m')∧LU φ S m' (ds++yW (ps.map fun p=>zQ s p.2)):=by
 intro ps
 induction ps with
 |nil=>
  intro i dn rest ds h1 _ h3 _ _ _
  have:rest=[]:=by cases rest<;>simp at h3 ⊢
  subst this
  exact⟨dn,by simp;rfl,by simpa[yW]using h1⟩
 |cons p ps ih=>
  intro i dn rest ds h1 h2 h3 hj hz hq
  simp only[List.all_cons,Bool.and_eq_true]at hj hz
  unfold seqB at hq
  simp only[Bool.and_eq_true]at hq
  obtain⟨c,g1,g2⟩:=cells_of (zK hs p.2) hj.1
  have hc:=g2.len
  have hcz:=zl hz.1
  have hpi:=zl hq.1
  have hcs:c.length=sz:=by omega
  simp only[List.length_cons,Nat.succ_mul]at h3
  have e1:(dn++rest).take (i*sz)=dn:=by rw[←h2];simp
  have e2:(dn++rest).drop (i*sz+c.length)=rest.drop sz:=by rw[←h2,List.drop_append,hcs];simp
  obtain⟨m',k1,k2⟩:=ih (i:=i+1) (dn:=dn++c) (rest:=rest.drop sz) (ds:=ds++zx (zQ s p.2)) (h1.append g2) (by simp[h2,hcs,Nat.succ_mul]) (by simp;omega) hj.2 hz.2 hq.2
  refine⟨m',?_,by simpa[yW,List.append_assoc]using k2⟩
  rw[zBp,zFG]
  show cond (Nat.beq (lenV (zBF (zG tm p.2)) 0) sz) (opt none (zFH (fun i=>some (i*sz,sz)) (zW tm ps)) (putV (zF (dn++rest)) (p.1*sz) (zBF (zG tm p.2)))) none=_
  rw[g1,zBV,Nat.add_zero,hcs,Nat.beq_refl,hpi,putV_of _ _ c (by simp;omega),e1,e2]
  rw[List.append_assoc]at k1 ⊢
  exact k1
theorem flat_dg(es:List U):∀{m:List V},LU φ S m (yW es)→LU φ S m (yW (es.map dg)):=by
 induction es with
 |nil=>intro m h;exact h
 |cons u es ih=>
  intro m h
  have h:LU φ S m (zx u++yW es):=h
  obtain⟨l1,l2,rfl,a,b⟩:=h.split
  show LU φ S _ (zx (dg u)++yW (es.map dg))
  refine LU.append ?_ (ih b)
  cases u with
  |lst k z xs=>
   cases k with
   |own=>
    cases a with
    |cons x l _ _ h1 h2=>exact .cons _ _ _ _ (VU.dg h1) h2
   |_=>exact a
  |_=>exact a
theorem cells_dg(u:U):(zx (dg u)).length=(zx u).length:=by
 cases u with
 |lst k z xs=>cases k<;>rfl
 |_=>rfl
theorem zEv{ps:Array (Nat×Operand)}(hd:Nat.blt d 1024=true)(ht:tyOf P t'=.slice el)(hz:yf P el=some z)(hc:P.cellsOf el=c)(h0:Nat.blt 0 c=true)(hzc:Nat.beq (lenV z 0) c=true)(hq:seqB 0 ps.toList=true)
  (hn:Nat.beq ps.toList.length n=true) (hbig:Nat.ble (n*c) 4096=true)
  (hj:(ps.toList.all fun p=>zDu (zQ s p.2))=true) (hsz:(ps.toList.all fun p=>Nat.beq (zx (zQ s p.2)).length c)=true)
  (hes:(ps.toList.map fun p=>zQ s p.2).map dg=es) (k:WpO P is orc all l (s.put d (.lst .full c es)) Q):WpO P is orc all (⟨some d,.buildSlice t' n ps,t,p,e,none⟩::l) s Q:=by
 subst hes
 obtain⟨zm,rfl⟩:=zEF hz
 have hn:=zl hn
 have hzl:zm.length=c:=by have:=zl hzc;rwa [zBV,Nat.add_zero]at this
 refine o_op (R:=fun u s1=>u=.lst .full c ((ps.toList.map fun p=>zQ s p.2).map dg)∧s1=s) hd ?_ fun u s1 h=>by obtain⟨rfl,rfl⟩:=h;exact k
 intro Pr φ S tm H hs
 obtain⟨r,r1,r2⟩:=repL_of zm n
 obtain⟨m,g1,g2⟩:=seq_run hs ps.toList (i:=0) (dn:=[]) (rest:=r) (ds:=[]) .nil (by simp) (by rw[r2,hzl,hn]) hj hsz hq
 simp only[List.nil_append]at g1 g2
 have hmlen:m.length=n*c:=by
  rw[g2.len]
  have:∀(qs:List (Nat×Operand)),(qs.all fun p=>Nat.beq (zx (zQ s p.2)).length c)=true→(yW (qs.map fun p=>zQ s p.2)).length=qs.length*c:=by
   intro qs
   induction qs with
   |nil=>intro _;simp[yW]
   |cons q qs ih=>
    intro h
    simp only[List.all_cons,Bool.and_eq_true]at h
    have:=ih h.2
    have h1:=zl h.1
    simp only[yW,List.map_cons,List.flatMap_cons,List.length_append,List.length_cons,Nat.succ_mul]at this ⊢
    omega
  rw[this _ hsz,hn]
 obtain⟨H1,a1,a2,a3,a4⟩:=zAp R.no hs.nok (.cells (zF m) el 0 []) (fun q H=>.ok (.slice q 0 n (capX n) c) H)
 have hA:Alloc H H1 (.cells (zF m) el 0 []):=⟨a2,a3,a4⟩
 have hle:=SMap.le_with m hs.none_n
 refine⟨.slice H.n 0 n (capX n) c,_,s,H1,φ,S.with H.n m,⟨0,fun q _=>?_⟩,hs.newMem hA,φ.le_refl,hle,hA.kept hs,?_,NewOk.none rfl,rfl,rfl⟩
 ·show ze P t' n (zW tm ps.toList) H=_
  unfold ze
  rw[ht]
  simp only[hz,hc]
  rw[hzc,show Nat.ble (n*c) 4096=true from hbig,r1,g1]
  exact a1
 ·refine .slice H.n 0 n (capX n) c m m [] .full _ (SMap.with_self _ _ _) (by simp) ((flat_dg _ g2).mono φ.le_refl hle) ?_ (by simp[hn]) ⟨by simp,?_,?_,?_⟩ (yu h0)
  ·intro w hw
   obtain⟨w',hw',rfl⟩:=List.mem_map.1 hw
   obtain⟨q,hq',rfl⟩:=List.mem_map.1 hw'
   rw[cells_dg]
   exact zl (List.all_eq_true.1 hsz q hq')
  ·show n≤(2*n+1) / 2;omega
  ·show Nat.beq ((2*n+1) % 2) 1=true
   rw[show(2*n+1) % 2=1 by omega];rfl
  ·show(2*n+1) / 2=n;omega
theorem zFS{v:V}{k:Kd}{sz:Nat}{es:List U}(h:VU φ S v (.lst k sz es)):(es=[]∧(v=.nils∨(0<sz∧∃cc,(k=.ro∨cc=capX 0)∧v=.slice .over 0 0 cc sz)))∨
  ∃b off cc m l1 l2,v=.slice b off es.length cc sz∧S b=some m∧m.drop off=l1++l2∧LU φ S l1 (yW es)∧(∀e∈es,(zx e).length=sz)∧KdOk k off es.length cc sz m∧0<sz:=by
 cases h with
 |nils=>exact .inl ⟨rfl,.inl rfl⟩
 |over k sz cc h0 hk=>exact .inl ⟨rfl,.inr ⟨h0,cc,hk,rfl⟩⟩
 |slice b off len cc sz m l1 l2 k es h1 h2 h3 h4 h5 h6 h7=>subst h5;exact .inr ⟨b,off,cc,m,l1,l2,rfl,h1,h2,h3,h4,h6,h7⟩
theorem zAW{es:List U}{sz:Nat}(h:∀e∈es,(zx e).length=sz):(yW es).length=es.length*sz:=by
 induction es with
 |nil=>simp[yW]
 |cons u es ih=>
  have h1:=ih fun e he=>h e (List.mem_cons_of_mem _ he)
  have h2:=h u List.mem_cons_self
  simp only[yW,List.flatMap_cons,List.length_append,List.length_cons,Nat.succ_mul]at h1 ⊢
  omega
theorem flat_at{es:List U}{i:Nat}{u:U}(h:es[i]? =some u):yW es=yW (es.take i)++(zx u++yW (es.drop (i+1))):=by
 induction es generalizing i with
 |nil=>simp at h
 |cons w es ih=>
  cases i with
  |zero=>simp at h;subst h;simp[yW]
  |succ i=>
   simp at h
   have:=ih h
   simp only[yW,List.flatMap_cons,List.take_succ_cons,List.drop_succ_cons,List.append_assoc]at this ⊢
   rw[this]
theorem wb{ki:IntKind}{i:Int}{kx:Kd}(hd:Nat.blt d 1024=true)(ht:tyOf P xt=.slice el)(hx:zQ s x=.lst kx c es)(hi:zQ s y=.int ki i)(h0:0≤i)(he:es[i.toNat]? =some u)
  (hc:P.cellsOf el=c) (k:WpO P is orc all l (s.put d (.eref (zx u) 0)) Q):WpO P is orc all (⟨some d,.indexAddr xt x y,t,p,e,none⟩::l) s Q:=by
 refine wm hd (fun w=>rfl) (fun Pr φ S tm H hs=>?_) k
 have h1:=zK hs x
 rw[hx]at h1
 have h2:=zK hs y
 rw[hi]at h2
 have h2:=zCE h2
 obtain⟨j,rfl⟩:∃j:Nat,i=j:=⟨i.toNat,by omega⟩
 simp only[Int.toNat_natCast]at he
 obtain⟨hj,_⟩:=List.getElem?_eq_some_iff.1 he
 rcases zFS h1 with ⟨rfl,_⟩|⟨b,off,cc,m,l1,l2,q1,q2,q3,q4,q5,q6,_⟩
 ·simp at he
 ·rw[flat_at he]at q4
  obtain⟨p1,p2,rfl,r1,r2⟩:=q4.split
  obtain⟨p3,p4,rfl,r3,r4⟩:=r2.split
  have hp1:p1.length=j*c:=by
   rw[r1.len,zAW (sz:=c) fun e he=>q5 e (List.mem_of_mem_take he),List.length_take,Nat.min_eq_left (by omega)]
  refine⟨.ptr b (off+j*c+0),fun E=>?_,.eref b m p3 (p4++l2) (off+j*c) _ 0 q2 ?_ r3⟩
  ·show ym P xt (zG tm x) (zG tm y) H=_
   unfold ym
   rw[ht,q1,h2]
   show idx R.no es.length (fun i=>R.ok (.ptr b (Nat.add off (Nat.mul i (P.cellsOf el)))) H) (.int ki (j:Int))=_
   show cond (Nat.ble (Nat.succ j) es.length) (R.ok (.ptr b (Nat.add off (Nat.mul j (P.cellsOf el)))) H) .no=_
   rw[show Nat.ble (Nat.succ j) es.length=true by rw[Nat.ble_eq];omega,hc];rfl
  ·rw[←List.drop_drop,q3,←hp1];simp
theorem zAt{ki:IntKind}{i:Int}(hd:Nat.blt d 1024=true)(ht:tyOf P xt=.array n el)(hx:zQ s x=.box a off)(hi:zQ s y=.int ki i)(h0:0≤i)(he:i<n)(hc:P.cellsOf el=c)
  (k:WpO P is orc all l (s.put d (.box a (off+i.toNat*c))) Q):WpO P is orc all (⟨some d,.indexAddr xt x y,t,p,e,none⟩::l) s Q:=by
 refine wm hd (fun w=>rfl) (fun Pr φ S tm H hs=>?_) k
 have h1:=zK hs x
 rw[hx]at h1
 obtain⟨b,g1,g2⟩:=zDj h1
 have h2:=zK hs y
 rw[hi]at h2
 have h2:=zCE h2
 obtain⟨j,rfl⟩:∃j:Nat,i=j:=⟨i.toNat,by omega⟩
 refine⟨.ptr b (off+j*c),fun E=>?_,.box _ _ _ g1⟩
 show ym P xt (zG tm x) (zG tm y) H=_
 unfold ym
 rw[ht,g2,h2]
 show cond (Nat.ble (Nat.succ j) n) (zCf H b off (Nat.mul j (P.cellsOf el))) .no=_
 rw[show Nat.ble (Nat.succ j) n=true by rw[Nat.ble_eq];omega,hc];exact zEO (hs.dom a b g1).1 off (j*c)
theorem o_idxE{ki:IntKind}{i:Int}(hd:Nat.blt d 1024=true)(ht:tyOf P xt=.array n el)(hx:zQ s x=.eref cs off)(hi:zQ s y=.int ki i)(h0:0≤i)(he:i<n)(hc:P.cellsOf el=c)
  (k:WpO P is orc all l (s.put d (.eref cs (off+i.toNat*c))) Q):WpO P is orc all (⟨some d,.indexAddr xt x y,t,p,e,none⟩::l) s Q:=by
 refine wm hd (fun w=>rfl) (fun Pr φ S tm H hs=>?_) k
 have h1:=zK hs x
 rw[hx]at h1
 obtain⟨b,m,l1,l2,q,g2,g3,g4,g5⟩:=eref_of h1
 have h2:=zK hs y
 rw[hi]at h2
 have h2:=zCE h2
 obtain⟨j,rfl⟩:∃j:Nat,i=j:=⟨i.toNat,by omega⟩
 refine⟨.ptr b (q+(off+j*c)),fun E=>?_,.eref b m l1 l2 q _ _ g2 g3 g4⟩
 show ym P xt (zG tm x) (zG tm y) H=_
 unfold ym
 rw[ht,g5,h2]
 show cond (Nat.ble (Nat.succ j) n) (zCf H b (q+off) (Nat.mul j (P.cellsOf el))) .no=_
 rw[show Nat.ble (Nat.succ j) n=true by rw[Nat.ble_eq];omega,hc]
 show zCf H b (q+off) (j*c)=_
 rw[zEO (hs.mem b m g2).1,Nat.add_assoc]
theorem zz{kx:Kd}{m:Nat}(hd:Nat.blt d 1024=true)(ht:tyOf P xt=.slice el)(hx:zQ s x=.lst kx c es)(hn:es.length=m)(k:WpO P is orc all l (s.put d (.int .i64 (m:Int))) Q):
  WpO P is orc all (⟨some d,.call ⟨.builtin .len, #[x], #[xt]⟩,t,p,e,none⟩::l) s Q:=by
 subst hn
 refine wm hd (fun w=>rfl) (fun Pr φ S tm H hs=>?_) k
 have h1:=zK hs x
 rw[hx]at h1
 refine⟨.int .i64 (es.length:Int),fun E=>?_,.int _ _⟩
 show zt H (lenB P H xt (zG tm x))=_
 unfold lenB
 rw[ht]
 rcases zFS h1 with ⟨rfl,h2|⟨_,_,_,h2⟩⟩|⟨b,off,cc,m,l1,l2,q1,_⟩
 ·rw[h2];rfl
 ·rw[h2];rfl
 ·rw[q1];rfl
theorem o_min{i j:Int}{ts:Array TypeId}(hd:Nat.blt d 1024=true)(hx:zQ s x=.int .i64 i)(hy:zQ s y=.int .i64 j)(k:WpO P is orc all l (s.put d (.int .i64 (min i j))) Q):
  WpO P is orc all (⟨some d,.call ⟨.builtin .min, #[x,y],ts⟩,t,p,e,none⟩::l) s Q:=by
 refine wm hd (fun w=>rfl) (fun Pr φ S tm H hs=>⟨.int .i64 (min i j),fun E=>?_,.int _ _⟩) k
 have h1:=zK hs x
 have h2:=zK hs y
 rw[hx]at h1;rw[hy]at h2
 show zt H (zCI minV (.cons (zG tm y) .nil) (zG tm x))=_
 rw[zCE h1,zCE h2]
 show zt H (some (.int .i64 (cond (ile i j) i j)))=_
 rw[zCj]
 have:cond (decide (i≤j)) i j=min i j:=by
  by_cases h:i≤j
  ·rw[decide_eq_true h];show i=_;omega
  ·rw[decide_eq_false h];show j=_;omega
 rw[this];rfl
theorem o_max{i j:Int}{ts:Array TypeId}(hd:Nat.blt d 1024=true)(hx:zQ s x=.int .i64 i)(hy:zQ s y=.int .i64 j)(k:WpO P is orc all l (s.put d (.int .i64 (max i j))) Q):
  WpO P is orc all (⟨some d,.call ⟨.builtin .max, #[x,y],ts⟩,t,p,e,none⟩::l) s Q:=by
 refine wm hd (fun w=>rfl) (fun Pr φ S tm H hs=>⟨.int .i64 (max i j),fun E=>?_,.int _ _⟩) k
 have h1:=zK hs x
 have h2:=zK hs y
 rw[hx]at h1;rw[hy]at h2
 show zt H (zCI maxV (.cons (zG tm y) .nil) (zG tm x))=_
 rw[zCE h1,zCE h2]
 show zt H (some (.int .i64 (cond (ile j i) i j)))=_
 rw[zCj]
 have:cond (decide (j≤i)) i j=max i j:=by
  by_cases h:j≤i
  ·rw[decide_eq_true h];show i=_;omega
  ·rw[decide_eq_false h];show j=_;omega
 rw[this];rfl
theorem o_func{g:FuncId}{xs ys:Array Operand}(hd:Nat.blt d 1024=true)(k:WpO P is orc all l (s.put d (.fn g ((zDG s xs.toList).map dg) ((zDG s ys.toList).map dg))) Q):
  WpO P is orc all (⟨some d,.makeFunc (.func g) xs ys,t,p,e,none⟩::l) s Q:=by
 refine wm hd (fun w=>rfl) (fun Pr φ S tm H hs=>⟨.func g (yY tm xs.toList) (yY tm ys.toList),fun E=>rfl,?_⟩) k
 rw[zBi,zBi]
 exact .fn g _ _ _ _ (LU.dgs (zAH hs _)) (LU.dgs (zAH hs _))
end lits
end Vam
namespace Vam
open Go
variable {Pr:Prt}{φ φ':BMap}{S S':SMap}{s s':St}{tm tm':TT}{H H':CH}{P:Program}{is:FuncId→Bool}{orc:Known}
theorem SR.stale(hs:SR Pr φ S s tm H){b:Id}{m:List V}{e:TypeId}{sh:List Id}(hw:b.wf)(hf:H.fz≤b.num)(hg:H.get b=some (.cells (zF m) e 0 sh))(hφ:∀a,φ a=some b→∃cs,s.st[a]? =some (.froz cs))
  (hno:∀lo v u,At φ s tm H lo v u→yU v u≠some b) (hp: ¬ Pr b):∃H',H.set b (.cells (zF m) e 1 sh)=some H'∧SR Pr φ S s tm H'∧Kept Pr H H':=by
 obtain⟨H',h1,h2,h3,h4⟩:=set_of hw hf (.cells (zF m) e 1 sh)
 have hne:∀c,c.wf→c≠b→H'.get c=H.get c:=fun c hc hcb=>by rw[h4 c hc,if_neg hcb]
 have hφb:∀a c x,φ a=some c→s.st[a]? =some x→(∀cs,x≠.froz cs)→c≠b:=by
  rintro a c x h hx hn rfl
  obtain⟨cs,hc⟩:=hφ a h
  rw[hx]at hc;cases hc
  exact hn _ rfl
 have key:∀lo v u,At φ s tm H' lo v u→At φ s tm H lo v u:=by
  intro lo v u ha
  cases ha with
  |slot i hi=>exact .slot i hi
  |cell a o c cs l e _ _ k1 k2 k3 k4 k5=>exact .cell a o c cs l e _ _ k1 k2 (by rw[←hne c (hs.dom a c k2).1 (hφb a c _ k2 k1 (fun _ h=>by cases h))];exact k3) k4 k5
 have key':∀lo v u,At φ s tm H lo v u→At φ s tm H' lo v u:=by
  intro lo v u ha
  cases ha with
  |slot i hi=>exact .slot i hi
  |cell a o c cs l e _ _ k1 k2 k3 k4 k5=>exact .cell a o c cs l e _ _ k1 k2 (by rw[hne c (hs.dom a c k2).1 (hφb a c _ k2 k1 (fun _ h=>by cases h))];exact k3) k4 k5
 refine⟨H',h1,⟨by rw[h2];exact hs.nok,by rw[h2,h3];exact hs.fzn,hs.fr,?_,?_,hs.inj,?_,?_,?_,?_,?_,hs.pnew⟩,⟨h3,fun c hc=>by rw[h2];exact hc,fun c hc=>hne c (hs.prot c hc).1 (by rintro rfl;exact hp hc),fun c _ hw _=>by
  by_cases ec:c=b
  ·subst ec;rw[hg];exact .cells
  ·exact .of_eq (hne c hw ec)⟩⟩
 ·intro a x ha
  cases x with
  |froz cs=>exact hs.bx a _ ha
  |box cs=>exact(hs.bx a _ ha).move φ.le_refl S.le_refl fun c q1=>hne c (hs.dom a c q1).1 (hφb a c _ q1 ha (fun _ h=>by cases h))
  |map cs=>exact(hs.bx a _ ha).move φ.le_refl S.le_refl fun c q1=>hne c (hs.dom a c q1).1 (hφb a c _ q1 ha (fun _ h=>by cases h))
  |loop q cs=>exact(hs.bx a _ ha).move φ.le_refl S.le_refl fun c q1=>hne c (hs.dom a c q1).1 (hφb a c _ q1 ha (fun _ h=>by cases h))
  |dead=>trivial
  |fmap cs=>exact(hs.bx a _ ha).move φ.le_refl S.le_refl fun c q1=>hne c (hs.dom a c q1).1 (hφb a c _ q1 ha (fun _ h=>by cases h))
 ·intro a c ha
  obtain⟨q1,q2,q3,q4⟩:=hs.dom a c ha
  exact⟨q1,by rw[h2];exact q2,q3,by rw[h3];exact q4⟩
 ·intro c l hc
  obtain⟨q1,q2,q3,q4⟩:=hs.mem c l hc
  refine⟨q1,by rw[h2];exact q2,q3,?_⟩
  by_cases ec:c=b
  ·subst ec
   rcases q4 with ⟨e',st,sh',r1,r2⟩|r1
   ·rw[hg]at r1
    have:zF m=zF l:=by injection r1 with r1;injection r1
    have:=zAi this
    subst this
    exact .inl ⟨e,1,sh,by rw[h4 c hw,if_pos rfl],by decide⟩
   ·rw[hg]at r1;cases r1
  ·rw[hne c q1 ec];exact q4
 ·intro lo v u c ha hc
  obtain⟨q1,m',e',sh',q2⟩:=hs.own lo v u c (key _ _ _ ha) hc
  have hcb:c≠b:=by rintro rfl;exact hno _ _ _ (key _ _ _ ha) hc
  exact⟨by rw[h3];exact q1,m',e',sh',by rw[hne c (zDe hs (key _ _ _ ha) hc).1 hcb];exact q2⟩
 ·intro lo lo' v u v' u' c ha ha' hc hc'
  exact hs.excl lo lo' v u v' u' c (key _ _ _ ha) (key _ _ _ ha') hc hc'
 ·intro p hpp
  obtain⟨q1,v,u,q2,q3⟩:=hs.ali p hpp
  exact⟨q1,v,u,key' _ _ _ q2,q3⟩
 ·intro c hc
  obtain⟨q1,q2,q3,q4⟩:=hs.prot c hc
  exact⟨q1,by rw[h2];exact q2,q3,fun lo v u ha=>q4 lo v u (key _ _ _ ha)⟩
theorem zEZ(hs:SR Pr φ S s tm H){m:List V}{us:List U}{el:TypeId}{c need:Nat}{sh:List Id}(h0:0<c)(hn:0<need)(hm:LU φ S m (yW us))(hz:∀e∈us,(zx e).length=c)(hl:us.length=need):
  ∃H1,alloc R.no H (.cells (zF m) el 0 sh) (fun n H=>.ok (.slice n 0 need (capA need) c) H)=.ok (.slice H.n 0 need (capA need) c) H1∧SR Pr φ (S.with H.n m) s tm H1∧S.le (S.with H.n m)∧Kept Pr H H1∧
   VU φ (S.with H.n m) (.slice H.n 0 need (capA need) c) (.lst .own c us)∧NewOk Pr φ s tm H1 (.slice H.n 0 need (capA need) c) (.lst .own c us):=by
 obtain⟨H1,a1,a2,a3,a4⟩:=zAp R.no hs.nok (.cells (zF m) el 0 sh) (fun n H=>.ok (.slice n 0 need (capA need) c) H)
 have hA:Alloc H H1 (.cells (zF m) el 0 sh):=⟨a2,a3,a4⟩
 have hle:=SMap.le_with m hs.none_n
 have hcE:capE (capA need)=false:=by show Nat.beq ((2*need) % 2) 1=false;rw[Nat.mul_mod_right];rfl
 have hcN:capN (capA need)=need:=by show(2*need) / 2=need;omega
 refine⟨H1,a1,hs.newMem hA,hle,hA.kept hs,?_,?_⟩
 ·refine .slice H.n 0 need _ c m m [] .own us (SMap.with_self _ _ _) (by simp) (hm.mono φ.le_refl hle) hz hl ⟨Nat.zero_le _,by rw[hcN];exact Nat.le_refl _,.inr ⟨hcE,hcN,rfl,?_,hn⟩⟩ h0
  rw[hm.len,zAW hz,hl]
 ·intro b hb
  have hb:(if capE (capA need)=true then none else some H.n)=some b:=hb
  rw[hcE]at hb
  cases hb
  refine⟨by rw[a3];exact hs.fzn,⟨m,el,sh,by rw[a4 _ hs.nok,if_pos rfl]⟩,fun lo v' u' ha he=>?_,fun hp=>zj hs.nok (hs.prot _ hp).2.1⟩
  have ha:=ha.alloc hA hs
  obtain⟨w1,w2⟩:=zDe hs ha he
  exact zj hs.nok w2
theorem lenOf_lst{v:V}{k:Kd}{z:Nat}{es:List U}(h:VU φ S v (.lst k z es)):lenOf v=some es.length:=by
 rcases zFS h with ⟨rfl,h1|⟨_,_,_,h1⟩⟩|⟨b,off,cc,m,l1,l2,h1,_⟩<;>rw[h1]<;>rfl
theorem first_run(hs:SR Pr φ S s tm H){v:V}{k:Kd}{z c:Nat}{es:List U}(h:VU φ S v (.lst k z es))(hz:z=c∨z=0):∃m,firstCells H c es.length v=some (zF m)∧LU φ S m (yW es)∧∀e∈es,(zx e).length=c:=by
 rcases zFS h with ⟨rfl,h1|⟨_,_,_,h1⟩⟩|⟨b,off,cc,m,l1,l2,h1,h2,h3,h4,h5,h6,h7⟩
 ·rw[h1];exact⟨[],rfl,.nil,by simp⟩
 ·rw[h1]
  refine⟨[],?_,.nil,by simp⟩
  show zX H .over 0 (0*c)=_
  rw[Nat.zero_mul];rfl
 ·have hzc:z=c:=by rcases hz with h|h<;>omega
  subst hzc
  have hl1:l1.length=es.length*z:=by rw[h4.len,zAW h5]
  have hm:off+es.length*z≤m.length:=by
   have:=congrArg List.length h3
   simp at this
   have:=h6.1
   omega
  refine⟨l1,?_,h4,h5⟩
  rw[h1]
  show zX H b off (es.length*z)=_
  rw[zGW (hs.mem b m h2).2.2.2 (.inr hm),h3,←hl1]
  simp
theorem append_core(hs:SR Pr φ S s tm H){el:TypeId}{v w:V}{z zy c bb:Nat}{xs ys:List U}{ky:Kd}{zv:V}(hv:VU φ S v (.lst .own z xs))(hn:NewOk Pr φ s tm H v (.lst .own z xs))(hw:VU φ S w (.lst ky zy ys))
  (hc:P.cellsOf el=c) (h0:0<c) (hb:P.bytesOf el=bb) (hzv:yf P el=some zv) (hzc:Nat.beq (lenV zv 0) c=true) (hz:z=c∨z=0) (hzy:zy=c∨zy=0) (hone:(yW ys).all oneU=true)
  (hbig:(xs.length+ys.length)*(bb+c)≤16777216):
  ∃v' H' S',wp P el H v w=.ok v' H'∧SR Pr φ S' s tm H'∧S.le S'∧Kept Pr H H'∧VU φ S' v' (.lst .own c (xs++ys))∧NewOk Pr φ s tm H' v' (.lst .own c (xs++ys)):=by
 obtain⟨nm,n1,n2,n3⟩:=first_run hs hw (c:=c) hzy
 have hrun:wp P el H v w=yx .no (zDK P H el c ys.length (zF nm)) (wJ P H el c ys.length (zF nm)) v:=by
  unfold wp
  rw[lenOf_lst hw,lenOf_lst hv]
  show cond (Nat.ble ((xs.length+ys.length)*(P.bytesOf el+P.cellsOf el)) zCV) _ _=_
  rw[hb,hc,show Nat.ble ((xs.length+ys.length)*(bb+c)) zCV=true by rw[Nat.ble_eq];exact hbig]
  obtain⟨c1,rfl⟩:∃c1,c=c1+1:=⟨c - 1,by omega⟩
  show opt R.no (fun new=>yx .no (zDK P H el (Nat.succ c1) ys.length new) (wJ P H el (Nat.succ c1) ys.length new) v) (firstCells H (Nat.succ c1) ys.length w)=_
  rw[show firstCells H (Nat.succ c1) ys.length w=some (zF nm)from n1];rfl
 rw[hrun]
 have hall:=allOne_of n2 hone
 have hnl:nm.length=ys.length*c:=by rw[n2.len,zAW n3]
 rcases zFS hv with ⟨rfl,h1|⟨hz0,cc0,hcc,h1⟩⟩|⟨b,off,cc,m,l1,l2,h1,h2,h3,h4,h5,h6,h7⟩
 ·
  rw[h1]
  cases hy:ys with
  |nil=>
   exact⟨.nils,H,S,rfl,hs,S.le_refl,Kept.refl _ _,.nils _ _,NewOk.none rfl⟩
  |cons y0 ys'=>
   obtain⟨H1,g1,g2,g3,g4,g5,g6⟩:=zEZ hs (el:=el) (sh:=[]) (need:=ys.length) h0 (by rw[hy];simp) n2 n3 rfl
   refine⟨.slice H.n 0 ys.length (capA ys.length) c,H1,_,?_,g2,g3,g4,?_,?_⟩
   ·rw[←hy]
    show wJ P H el c ys.length (zF nm)=_
    rw[hy]
    show opt .no (fun z=>cond (Nat.beq (lenV z 0) c) (cond (we (zF nm)) (yy H el c (ys'.length+1) (zF nm)) .no) .no) (yf P el)=_
    rw[hzv]
    show cond (Nat.beq (lenV zv 0) c) (cond (we (zF nm)) (yy H el c (ys'.length+1) (zF nm)) .no) .no=_
    rw[hzc,hall]
    rw[hy]at g1;exact g1
   ·rw[←hy];exact g5
   ·rw[←hy];exact g6
 ·
  obtain rfl:=hcc.resolve_left (fun h=>by cases h)
  have hzc':z=c:=by rcases hz with h|h<;>omega
  subst hzc'
  rw[h1]
  cases hy:ys with
  |nil=>
   have:nm=[]:=by rw[hy]at hnl;simpa using hnl
   subst this
   refine⟨.slice .over 0 0 (capX 0) z,H,S,?_,hs,S.le_refl,Kept.refl _ _,.over _ _ _ hz0 (.inr rfl),NewOk.none rfl⟩
   show cond (Nat.beq z z) (cond (Nat.ble (0+0) (capN (capX 0))) (zAY H z (0+0) .nil .over 0 0 (capX 0)) _) .no=_
   rw[Nat.beq_refl];rfl
  |cons y0 ys'=>
   obtain⟨H1,g1,g2,g3,g4,g5,g6⟩:=zEZ hs (el:=el) (sh:=[]) (need:=ys.length) h0 (by rw[hy];simp) n2 n3 rfl
   refine⟨.slice H.n 0 ys.length (capA ys.length) z,H1,_,?_,g2,g3,g4,?_,?_⟩
   ·rw[←hy]
    show cond (Nat.beq z z) (cond (Nat.ble (0+ys.length) (capN (capX 0))) (zAY H z (0+ys.length) (zF nm) .over 0 0 (capX 0)) (yd P H el z (0+ys.length) (zF nm) .over 0 0 (capX 0))) .no=_
    rw[Nat.beq_refl,Nat.zero_add,show Nat.ble ys.length (capN (capX 0))=false by rw[hy];rfl]
    show yd P H el z ys.length (zF nm) .over 0 0 (capX 0)=_
    unfold yd
    rw[hzv]
    show cond (Nat.beq (lenV zv 0) z) (cond (we (zF nm)) (opt .no (fun old=>yy H el z ys.length (appV old (zF nm))) (zX H .over 0 (0*z))) .no) .no=_
    rw[hzc,hall,Nat.zero_mul]
    exact g1
   ·rw[←hy];exact g5
   ·rw[←hy];exact g6
 ·have hzc':z=c:=by rcases hz with h|h<;>omega
  subst hzc'
  have hl1:l1.length=xs.length*z:=by rw[h4.len,zAW h5]
  have hoff:off+xs.length*z≤m.length:=by
   have:=congrArg List.length h3
   simp at this
   have:=h6.1
   omega
  have hcn:capN cc=xs.length:=by rcases h6.2.2 with ⟨_,q⟩|⟨_,q,_⟩<;>exact q
  rw[h1]
  show ∃v' H' S',cond (Nat.beq z z) (cond (Nat.ble (xs.length+ys.length) (capN cc)) (zAY H z (xs.length+ys.length) (zF nm) b off xs.length cc) (yd P H el z (xs.length+ys.length) (zF nm) b off xs.length cc)) R.no=R.ok v' H'∧_
  rw[Nat.beq_refl,hcn]
  cases hy:ys with
  |nil=>
   have:nm=[]:=by rw[hy]at hnl;simpa using hnl
   subst this
   refine⟨.slice b off xs.length cc z,H,S,?_,hs,S.le_refl,Kept.refl _ _,?_,?_⟩
   ·show cond (Nat.ble (xs.length+0) xs.length) _ _=_
    rw[Nat.add_zero,Nat.ble_self_eq_true];rfl
   ·rw[List.append_nil,←h1];exact hv
   ·rw[List.append_nil,←h1];exact hn
  |cons y0 ys'=>
   rw[←hy]
   have hpos:0<ys.length:=by rw[hy];simp
   rw[show Nat.ble (xs.length+ys.length) xs.length=false by
    cases hq:Nat.ble (xs.length+ys.length) xs.length with
    |true=>have:=Nat.le_of_ble_eq_true hq;omega
    |false=>rfl]
   show ∃v' H' S',yd P H el z (xs.length+ys.length) (zF nm) b off xs.length cc=R.ok v' H'∧_
   have hrun2:yd P H el z (xs.length+ys.length) (zF nm) b off xs.length cc=
     cond (capE cc) (opt .no (fun old=>yy H el z (xs.length+ys.length) (appV old (zF nm))) (zX H b off (xs.length*z))) (yS .no (zDb H b off (xs.length*z) z (xs.length+ys.length) (zF nm)) (H.get b)):=by
    unfold yd
    rw[hzv]
    show cond (Nat.beq (lenV zv 0) z) (cond (we (zF nm)) _ R.no) R.no=_
    rw[hzc,hall];rfl
   rw[hrun2]
   have hlu:LU φ S (l1++nm) (yW (xs++ys)):=by
    have:=h4.append n2
    simpa[yW]using this
   have hsz:∀e∈xs++ys,(zx e).length=z:=by
    intro e he
    rcases List.mem_append.1 he with h|h
    ·exact h5 e h
    ·exact n3 e h
   cases hcE:capE cc with
   |true=>
    obtain⟨H1,g1,g2,g3,g4,g5,g6⟩:=zEZ hs (el:=el) (sh:=[]) (need:=xs.length+ys.length) h0 (by omega) hlu hsz (by simp)
    refine⟨.slice H.n 0 (xs.length+ys.length) (capA (xs.length+ys.length)) z,H1,_,?_,g2,g3,g4,g5,g6⟩
    show opt .no (fun old=>yy H el z (xs.length+ys.length) (appV old (zF nm))) (zX H b off (xs.length*z))=_
    rw[zGW (hs.mem b m h2).2.2.2 (.inr hoff),h3,←hl1]
    show yy H el z (xs.length+ys.length) (appV (zF ((l1++l2).take l1.length)) (zF nm))=_
    rw[show(l1++l2).take l1.length=l1 by simp,zED]
    exact g1
   |false=>
    obtain⟨_,_,ho,hml,hx0⟩:capE cc=false∧capN cc=xs.length∧off=0∧m.length=xs.length*z∧0<xs.length:=by
     rcases h6.2.2 with ⟨q,_⟩|q
     ·rw[q]at hcE;cases hcE
     ·exact q
    subst ho
    have hob:yU v (.lst .own z xs)=some b:=by
     rw[h1]
     show(if capE cc=true then none else some b)=some b
     rw[hcE];rfl
    obtain⟨k1,⟨m',e',sh',k2⟩,k3,k4⟩:=hn b hob
    obtain⟨w1,w2,w3,w4⟩:=hs.mem b m h2
    have:m'=m:=by
     rcases w4 with ⟨e2,st2,sh2,r1,_⟩|r1
     ·rw[k2]at r1
      have:zF m'=zF m:=by injection r1 with r1;injection r1
      exact zAi this
     ·rw[k2]at r1;cases r1
    subst this
    obtain⟨H1,s1,s2,s3⟩:=hs.stale w1 k1 k2 w3 k3 k4
    have hl2:l2=[]:=by
     have:=congrArg List.length h3
     simp at this
     cases l2 with
     |nil=>rfl
     |cons _ _=>simp at this;omega
    subst hl2
    have hm1:m'=l1:=by simpa using h3
    obtain⟨H2,g1,g2,g3,g4,g5,g6⟩:=zEZ s2 (el:=e') (sh:=b::sh') (need:=xs.length+ys.length) h0 (by omega) hlu hsz (by simp)
    refine⟨.slice H1.n 0 (xs.length+ys.length) (capA (xs.length+ys.length)) z,H2,_,?_,g2,g3,s3.trans g4,g5,g6⟩
    rw[k2]
    show cond (Nat.beq (lenV (zF m') 0) (0+xs.length*z)) (opt R.no (fun H=>alloc R.no H (.cells (appV (zDy (zF m') 0) (zF nm)) e' 0 (b::sh')) (fun n H=>R.ok (.slice n 0 (xs.length+ys.length) (capA (xs.length+ys.length)) z) H)) (H.set b (.cells (zF m') e' 1 sh'))) R.no=_
    rw[zBV,Nat.add_zero,Nat.zero_add,hml,Nat.beq_refl,s1,dropV_of,List.drop_zero,zED,hm1]
    exact g1
end Vam
namespace Vam
open Go
variable {Pr:Prt}{φ φ':BMap}{S S':SMap}{s s':St}{tm tm':TT}{H H':CH}{P:Program}{is:FuncId→Bool}{orc:Known}
def St.dropC(s:St)(a:Nat)(cs:List U)(o:Nat)(u:U):St:=⟨s.fr,s.al,s.st.set a (.box (cs.set o (dg u)))⟩
theorem SR.dropC(hs:SR Pr φ S s tm H){a o:Nat}{cs:List U}{u:U}(hst:s.st[a]? =some (.box cs))(hc:cs[o]? =some u):
  SR Pr φ S (s.dropC a cs o u) tm H∧∀v b,At φ s tm H (.cell a o) v u→yU v u=some b→∀lo w x,At φ (s.dropC a cs o u) tm H lo w x→yU w x≠some b:=by
 have ha:a<s.st.length:=(List.getElem?_eq_some_iff.1 hst).1
 have ho:o<cs.length:=(List.getElem?_eq_some_iff.1 hc).1
 have key:∀lo w x,At φ (s.dropC a cs o u) tm H lo w x→(At φ s tm H lo w x∧lo≠.cell a o)∨yU w x=none:=by
  intro lo w x h
  cases h with
  |slot i hi=>exact .inl ⟨.slot i hi,by simp⟩
  |cell c p b cs' l e _ _ h1 h2 h3 h4 h5=>
   have h1:(s.st.set a (.box (cs.set o (dg u))))[c]? =some (.box cs'):=h1
   by_cases ec:c=a
   ·subst ec
    rw[List.getElem?_set_self ha]at h1
    cases h1
    by_cases ep:p=o
    ·subst ep
     rw[List.getElem?_set_self ho]at h5
     cases h5;exact .inr (yk _ _)
    ·rw[List.getElem?_set_ne (Ne.symm ep)]at h5
     exact .inl ⟨.cell c p b cs l e _ _ hst h2 h3 h4 h5,by simpa using ep⟩
   ·rw[List.getElem?_set_ne (Ne.symm ec)]at h1
    exact .inl ⟨.cell c p b cs' l e _ _ h1 h2 h3 h4 h5,by simp[ec]⟩
 have key':∀lo w x,At φ s tm H lo w x→∃x',At φ (s.dropC a cs o u) tm H lo w x':=by
  intro lo w x h
  cases h with
  |slot i hi=>exact⟨_,.slot i hi⟩
  |cell c p b cs' l e _ _ h1 h2 h3 h4 h5=>
   by_cases ec:c=a
   ·subst ec
    rw[hst]at h1;cases h1
    by_cases ep:p=o
    ·subst ep
     exact⟨_,.cell c p b (cs.set p (dg u)) l e _ (dg u) (by show(s.st.set c _)[c]? =_;rw[List.getElem?_set_self ha]) h2 h3 h4 (by rw[List.getElem?_set_self ho])⟩
    ·exact⟨_,.cell c p b (cs.set o (dg u)) l e _ _ (by show(s.st.set c _)[c]? =_;rw[List.getElem?_set_self ha]) h2 h3 h4 (by rw[List.getElem?_set_ne (Ne.symm ep)];exact h5)⟩
   ·exact⟨_,.cell c p b cs' l e _ _ (by show(s.st.set a _)[c]? =_;rw[List.getElem?_set_ne (Ne.symm ec)];exact h1) h2 h3 h4 h5⟩
 refine⟨⟨hs.nok,hs.fzn,hs.fr,?_,?_,hs.inj,?_,?_,?_,?_,?_,hs.pnew⟩,?_⟩
 ·intro c x h
  have h:(s.st.set a (.box (cs.set o (dg u))))[c]? =some x:=h
  by_cases ec:c=a
  ·subst ec
   rw[List.getElem?_set_self ha]at h
   cases h
   obtain⟨b,l,e,q1,q2,q3⟩:=hs.box c cs hst
   obtain⟨w,w1,w2⟩:=q3.get hc
   refine⟨b,l,e,q1,q2,?_⟩
   have:=q3.set o (v:=w) (u:=dg u) (VU.dg w2)
   rwa [show l.set o w=l by
    obtain⟨w3,w4⟩:=List.getElem?_eq_some_iff.1 w1
    rw[←w4,List.set_getElem_self]]at this
  ·rw[List.getElem?_set_ne (Ne.symm ec)]at h
   exact hs.bx c x h
 ·intro c b h
  obtain⟨q1,q2,q3,q4⟩:=hs.dom c b h
  exact⟨q1,q2,by show c<(s.st.set a _).length;simpa using q3,fun q=>q4 (q.set hst fun _ q=>by cases q)⟩
 ·intro c m hc
  obtain⟨q1,q2,q3,q4⟩:=hs.mem c m hc
  refine⟨q1,q2,fun a' ha'=>?_,q4⟩
  obtain⟨cs0,q⟩:=q3 a' ha'
  have hne':a'≠a:=by rintro rfl;rw[hst]at q;cases q
  exact⟨cs0,by show(s.st.set a _)[a']? =_;rw[List.getElem?_set_ne (Ne.symm hne')];exact q⟩
 ·intro lo v w b h hb
  rcases key _ _ _ h with ⟨h,_⟩|q
  ·exact hs.own lo v w b h hb
  ·rw[q]at hb;cases hb
 ·intro lo lo' v w v' w' b h h' hb hb'
  rcases key _ _ _ h with ⟨h,_⟩|q
  ·rcases key _ _ _ h' with ⟨h',_⟩|q
   ·exact hs.excl lo lo' v w v' w' b h h' hb hb'
   ·rw[q]at hb';cases hb'
  ·rw[q]at hb;cases hb
 ·intro p hp
  obtain⟨h3,w,x,h4,h5⟩:=hs.ali p hp
  obtain⟨x',h6⟩:=key' _ _ _ h4
  exact⟨h3,w,x',h6,h5⟩
 ·intro b hb
  obtain⟨p1,p2,p3,p4⟩:=hs.prot b hb
  refine⟨p1,p2,fun a' ha'=>?_,fun lo w x h=>?_⟩
  ·obtain⟨cs0,q⟩:=p3 a' ha'
   have hne':a'≠a:=by rintro rfl;rw[hst]at q;cases q
   exact⟨cs0,by show(s.st.set a _)[a']? =_;rw[List.getElem?_set_ne (Ne.symm hne')];exact q⟩
  rcases key _ _ _ h with ⟨h,_⟩|q
  ·exact p4 lo w x h
  ·rw[q];simp
 ·intro v b hat hb lo w x h he
  rcases key _ _ _ h with ⟨h,hn⟩|q
  ·exact hn (hs.excl lo (.cell a o) w x v u b h hat he hb)
  ·rw[q]at he;cases he
theorem VU.full_own{v:V}{z:Nat}{es:List U}(h:VU φ S v (.lst .full z es)):VU φ S v (.lst .own z es)∧yU v (.lst .own z es)=none:=by
 cases h with
 |nils=>exact⟨.nils _ _,rfl⟩
 |over _ _ _ h0 hk=>
  obtain rfl:=hk.resolve_left (fun h=>by cases h)
  exact⟨.over _ _ _ h0 (.inr rfl),by simp[yU,capE,capX]⟩
 |slice b off len cc _ l l1 l2 k _ h1 h2 h3 h4 h5 h6 h7=>
  refine⟨.slice b off len cc _ l l1 l2 _ _ h1 h2 h3 h4 h5 ⟨h6.1,h6.2.1,.inl h6.2.2⟩ h7,?_⟩
  show(if capE cc=true then none else some b)=none
  rw[h6.2.2.1];rfl
structure AppT(P:Program)(t1 t2 el:TypeId)(c bb:Nat)(zv:V):Prop where
 h1:tyOf P t1=.slice el
 h2:∃e2,tyOf P t2=.slice e2
 hc:P.cellsOf el=c
 h0:0<c
 hb:P.bytesOf el=bb
 hz:yf P el=some zv
 hzc:Nat.beq (lenV zv 0) c=true
section app
variable {all l:List Oper}{d:Nat}{x y:Operand}{t t1 t2 xt el:TypeId}{p:String}{e:Array Edge}{a o n c bb z zy:Nat}{cs es xs ys:List U}{u:U}{Q:St→Prop}{zv:V}{ky kx:Kd}
theorem zDt(R:St)(hd:Nat.blt d 1024=true)(hT:AppT P t1 t2 el c bb zv)(hy:zQ s y=.lst ky zy ys)(hz:z=c∨z=0)(hzy:zy=c∨zy=0)(hone:(yW ys).all oneU=true)
  (hbig:(xs.length+ys.length)*(bb+c)≤16777216)
  (hbase:∀Pr φ S tm H,SR Pr φ S s tm H→SR Pr φ S R tm H∧VU φ S (zG tm x) (.lst .own z xs)∧NewOk Pr φ R tm H (zG tm x) (.lst .own z xs))
  (k:WpO P is orc all l (R.put d (.lst .own c (xs++ys))) Q):WpO P is orc all (⟨some d,.call ⟨.builtin .append, #[x,y], #[t1,t2]⟩,t,p,e,none⟩::l) s Q:=by
 refine o_op (R:=fun u s1=>u=.lst .own c (xs++ys)∧s1=R) hd ?_ fun u s1 h=>by obtain⟨rfl,rfl⟩:=h;exact k
 intro Pr φ S tm H hs
 obtain⟨g1,g2,g3⟩:=hbase Pr φ S tm H hs
 have hyr:=zK hs y
 rw[hy]at hyr
 obtain⟨v',H1,S1,r1,r2,r3,r4,r5,r6⟩:=append_core g1 g2 g3 hyr hT.hc hT.h0 hT.hb hT.hz hT.hzc hz hzy hone hbig
 refine⟨v',_,_,H1,φ,S1,⟨0,fun n _=>?_⟩,r2,φ.le_refl,r3,r4,r5,r6,rfl,rfl⟩
 show wd P [t1,t2] H (zG tm x) (zG tm y)=_
 unfold wd
 obtain⟨e2,h2⟩:=hT.h2
 simp only[hT.h1,h2]
 exact r1
theorem o_appendF(hd:Nat.blt d 1024=true)(hT:AppT P t1 t2 el c bb zv)(hx:zQ s x=.lst .full z xs)(hy:zQ s y=.lst ky zy ys)(hz:z=c∨z=0)(hzy:zy=c∨zy=0)(hone:(yW ys).all oneU=true)
  (hbig:(xs.length+ys.length)*(bb+c)≤16777216) (k:WpO P is orc all l (s.put d (.lst .own c (xs++ys))) Q):WpO P is orc all (⟨some d,.call ⟨.builtin .append, #[x,y], #[t1,t2]⟩,t,p,e,none⟩::l) s Q:=by
 refine zDt s hd hT hy hz hzy hone hbig (fun Pr φ S tm H hs=>?_) k
 have h1:=zK hs x
 rw[hx]at h1
 exact⟨hs,(VU.full_own h1).1,NewOk.none (VU.full_own h1).2⟩
def isCp(s:St)(a:Nat)(lo:Lo):Bool:=s.al.any fun p=>Nat.beq p.1 a&&(match p.2,lo with| .slot i,.slot j=>Nat.beq i j| .cell i m,.cell j n=>Nat.beq i j&&Nat.beq m n|_,_=>false)
theorem isCp_mem{lo:Lo}(h:isCp s a lo=true):(a,lo)∈s.al:=by
 unfold isCp at h
 obtain⟨p,h1,h2⟩:=List.any_eq_true.1 h
 simp only[Bool.and_eq_true]at h2
 obtain⟨h2,h3⟩:=h2
 have e1:=zl h2
 have e2:p.2=lo:=by
  cases hp:p.2 with
  |slot i=>cases lo with
   |slot j=>rw[hp]at h3;rw[zl h3]
   |cell _ _=>rw[hp]at h3;cases h3
  |cell i m=>cases lo with
   |slot j=>rw[hp]at h3;cases h3
   |cell j n=>rw[hp]at h3;simp only[Bool.and_eq_true]at h3;rw[zl h3.1,zl h3.2]
 rw[←e1,←e2];exact h1
theorem zAu(b:Nat)(hd:Nat.blt d 1024=true)(hT:AppT P t1 t2 el c bb zv)(hcp:isCp s a (.slot b)=true)(hx:s.slot b=.lst .own z xs)(hy:zQ s y=.lst ky zy ys)(hz:z=c∨z=0)(hzy:zy=c∨zy=0)(hone:(yW ys).all oneU=true)
  (hbig:(xs.length+ys.length)*(bb+c)≤16777216) (k:WpO P is orc all l ((s.drop b).put d (.lst .own c (xs++ys))) Q):WpO P is orc all (⟨some d,.call ⟨.builtin .append, #[.tmp a,y], #[t1,t2]⟩,t,p,e,none⟩::l) s Q:=by
 refine zDt (s.drop b) hd hT hy hz hzy hone hbig (fun Pr φ S tm H hs=>?_) k
 have h1:=zK hs (.tmp b)
 obtain⟨g1,g2⟩:=zHA hs (.tmp b)
 rw[show zQ s (.tmp b)=_ from hx]at h1 g2
 obtain⟨_,v,w,q1,q2⟩:=hs.ali _ (isCp_mem hcp)
 have e:zG tm (.tmp a)=zG tm (.tmp b):=by
  cases q1 with
  |slot _ hi=>exact q2
 rw[e]
 exact⟨g1,h1,g2⟩
theorem o_appendC(b o:Nat)(hd:Nat.blt d 1024=true)(hT:AppT P t1 t2 el c bb zv)(hcp:isCp s a (.cell b o)=true)(hb:s.st[b]? =some (.box cs))(hx:cs[o]? =some (.lst .own z xs))(hy:zQ s y=.lst ky zy ys)(hz:z=c∨z=0)(hzy:zy=c∨zy=0)
  (hone:(yW ys).all oneU=true) (hbig:(xs.length+ys.length)*(bb+c)≤16777216) (k:WpO P is orc all l ((s.dropC b cs o (.lst .own z xs)).put d (.lst .own c (xs++ys))) Q):
  WpO P is orc all (⟨some d,.call ⟨.builtin .append, #[.tmp a,y], #[t1,t2]⟩,t,p,e,none⟩::l) s Q:=by
 refine zDt (s.dropC b cs o (.lst .own z xs)) hd hT hy hz hzy hone hbig (fun Pr φ S tm H hs=>?_) k
 obtain⟨_,v,w,q1,q2⟩:=hs.ali _ (isCp_mem hcp)
 obtain⟨g1,g2⟩:=hs.dropC hb hx
 have hw:w=.lst .own z xs:=by
  cases q1 with
  |cell _ _ b' cs' l' e' _ _ h1 h2 h3 h4 h5=>rw[hb]at h1;cases h1;rw[hx]at h5;cases h5;rfl
 subst hw
 have hev:zG tm (.tmp a)=v:=q2
 rw[hev]
 refine⟨g1,q1.vu hs,fun id hid=>?_⟩
 obtain⟨k1,k2⟩:=hs.own _ _ _ _ q1 hid
 exact⟨k1,k2,g2 v id q1 hid,fun hp=>(hs.prot _ hp).2.2.2 _ _ _ q1 hid⟩
theorem lst_sub{b:Id}{off len cc:Nat}{m l1 l2:List V}(h2:S b=some m)(h3:m.drop off=l1++l2)(h4:LU φ S l1 (yW es))(h5:∀e∈es,(zx e).length=z){lo hi:Nat}(hlo:lo≤hi)(hhi:hi≤es.length):
  ∃k1 k2,m.drop (off+lo*z)=k1++k2∧LU φ S k1 (yW ((es.take hi).drop lo))∧(∀e∈(es.take hi).drop lo,(zx e).length=z):=by
 have hsp:es=es.take lo++((es.take hi).drop lo++es.drop hi):=by
  have e1:(es.take hi).take lo=es.take lo:=by rw[List.take_take,Nat.min_eq_left hlo]
  have e2:=List.take_append_drop lo (es.take hi)
  rw[e1]at e2
  rw[←List.append_assoc,e2,List.take_append_drop]
 have hfl:yW es=yW (es.take lo)++(yW ((es.take hi).drop lo)++yW (es.drop hi)):=by
  have:yW es=yW (es.take lo++((es.take hi).drop lo++es.drop hi)):=by rw[←hsp]
  simpa[yW]using this
 rw[hfl]at h4
 obtain⟨p1,p2,rfl,r1,r2⟩:=h4.split
 obtain⟨p3,p4,rfl,r3,r4⟩:=r2.split
 have hp1:p1.length=lo*z:=by
  rw[r1.len,zAW (sz:=z) fun e he=>h5 e (List.mem_of_mem_take he),List.length_take,Nat.min_eq_left (by omega)]
 refine⟨p3,p4++l2,?_,r3,fun e he=>h5 e (List.mem_of_mem_take (List.mem_of_mem_drop he))⟩
 rw[←List.drop_drop,h3,←hp1];simp
theorem o_slice0{hi mx:Operand}{k1 k2:IntKind}(hd:Nat.blt d 1024=true)(ht:tyOf P xt=.slice el)(hc:P.cellsOf el=c)(hx:zQ s x=.lst kx z es)(hz:z=c∨z=0)(hh:zQ s hi=.int k1 (n:Int))(hm:zQ s mx=.int k2 (n:Int))(hn:n≤es.length)
  (k:WpO P is orc all l (s.put d (.lst .full c (es.take n))) Q):WpO P is orc all (⟨some d,.slice xt x none (some hi) (some mx),t,p,e,none⟩::l) s Q:=by
 refine wm hd (fun w=>rfl) (fun Pr φ S tm H hs=>?_) k
 have h1:=zK hs x
 rw[hx]at h1
 have h2:=zK hs hi
 rw[hh]at h2
 have h3:=zK hs mx
 rw[hm]at h3
 have hrun:∀v,zBv P xt v none (some (.int k1 (n:Int))) (some (.int k2 (n:Int)))=yx none (zEo (P.cellsOf el) none (some (.int k1 (n:Int))) (some (.int k2 (n:Int)))) (sliceNil none (some (.int k1 (n:Int))) (some (.int k2 (n:Int)))) v:=by
  intro v;unfold zBv;rw[ht]
 have hev:∀E:Ev,evOp P E tm H (.slice xt x none (some hi) (some mx))=zt H (zBv P xt (zG tm x) none (some (.int k1 (n:Int))) (some (.int k2 (n:Int)))):=by
  intro E
  show zt H (zBv P xt (zG tm x) none (some (zG tm hi)) (some (zG tm mx)))=_
  rw[zCE h2,zCE h3]
 have hsl:∀(b:Id) (off len cc z:Nat),z=c→len≤capN cc→n≤len→zEo (P.cellsOf el) none (some (.int k1 (n:Int))) (some (.int k2 (n:Int))) b off len cc z=some (.slice b off n (capX n) c):=by
  intro b off len cc z hz h5 h6
  subst hz
  unfold zEo
  rw[hc,Nat.beq_refl]
  show opt none (fun me=>opt none (fun lh=>zAl z b off me.1 me.2 lh.1 lh.2) (zCN len me.1 none (some (.int k1 (n:Int))) (some (.int k2 (n:Int))))) (opt none (fun m=>some (m,true)) (cond (Nat.ble n (capN cc)) (some n) none))=_
  rw[show Nat.ble n (capN cc)=true by rw[Nat.ble_eq];omega]
  show opt none (fun lh=>zAl z b off n true lh.1 lh.2) (opt none (fun h=>opt none (fun l=>some (l,h)) (some 0)) (cond (Nat.ble n n) (some n) none))=_
  rw[Nat.ble_self_eq_true]
  show zAl z b off n true 0 n=_
  unfold zAl
  cases n with
  |zero=>rfl
  |succ n=>
   show some (V.slice b (off+0*z) (n+1 - 0) (capX (n+1 - 0)) z)=_
   rw[Nat.zero_mul,Nat.add_zero,Nat.sub_zero]
 rcases zFS h1 with ⟨rfl,h4|⟨h0,cc0,hcc,h4⟩⟩|⟨b,off,cc,m,l1,l2,q1,q2,q3,q4,q5,q6,q7⟩
 ·have:n=0:=by simpa using hn
  subst this
  refine⟨.nils,fun E=>?_,.nils _ _⟩
  rw[hev,hrun,h4];rfl
 ·have:n=0:=by simpa using hn
  subst this
  have hzc:z=c:=by rcases hz with h|h<;>omega
  refine⟨.slice .over 0 0 (capX 0) c,fun E=>?_,.over _ _ _ (by omega) (.inr rfl)⟩
  rw[hev,hrun,h4]
  show zt H (zEo (P.cellsOf el) none (some (.int k1 ((0:Nat):Int))) (some (.int k2 ((0:Nat):Int))) .over 0 0 cc0 z)=_
  rw[hsl .over 0 0 cc0 z hzc (Nat.zero_le _) (Nat.zero_le _)];rfl
 ·have hzc:z=c:=by rcases hz with h|h<;>omega
  obtain⟨p1,p2,r1,r2,r3⟩:=lst_sub (lo:=0) (off:=off) (len:=0) (cc:=0) q2 q3 q4 q5 (Nat.zero_le n) hn
  simp only[Nat.zero_mul,Nat.add_zero,List.drop_zero]at r1 r2 r3
  refine⟨.slice b off n (capX n) c,fun E=>?_,?_⟩
  ·rw[hev,hrun,q1]
   show zt H (zEo (P.cellsOf el) none (some (.int k1 (n:Int))) (some (.int k2 (n:Int))) b off es.length cc z)=_
   rw[hsl b off es.length cc z hzc q6.2.1 hn];rfl
  ·subst hzc
   refine .slice b off n (capX n) z m p1 p2 .full _ q2 r1 r2 r3 (by simp;omega) ⟨q6.1,?_,?_,?_⟩ q7
   ·show n≤(2*n+1) / 2;omega
   ·show Nat.beq ((2*n+1) % 2) 1=true
    rw[show(2*n+1) % 2=1 by omega];rfl
   ·show(2*n+1) / 2=n;omega
end app
end Vam
