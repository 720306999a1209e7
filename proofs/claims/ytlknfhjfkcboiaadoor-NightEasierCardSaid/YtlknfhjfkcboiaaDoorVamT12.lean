import Derived.Test.YtlknfhjfkcboiaaDoorVamT11
set_option linter.unusedVariables false
set_option linter.unusedSimpArgs false
set_option linter.constructorNameAsVariable false
namespace Go.Proofs.YtlknfhjfkcboiaaDoor.night
open Vam
section
structure Esy(b d:Bk):Prop where
 bg:d.bg≤b.bg
 op:∀p:Nat,(d.opens[p]?).getD 0≤(b.opens[p]?).getD 0
 en:∀p:Nat,(b.ends[p]?).getD 0≤(d.ends[p]?).getD 0
 sn:d.scenes.length=b.scenes.length
 sc:∀(i:Nat) (q r:Sc),d.scenes[i]? =some q→b.scenes[i]? =some r→q.part=r.part∧q.wt=r.wt∧q.must=r.must∧q.hi≤r.hi
variable {b d:Bk}
theorem Esy.two(h:Esy b d)(i:Nat):(d.scenes[i]? =none∧b.scenes[i]? =none)∨∃q r,d.scenes[i]? =some q∧b.scenes[i]? =some r∧q.part=r.part∧q.wt=r.wt∧q.must=r.must∧q.hi≤r.hi:=by
 have hn:=h.sn
 by_cases hi:i<b.scenes.length
 ·have e1:d.scenes[i]? =some (d.scenes[i]'(by omega)):=List.getElem?_eq_getElem (by omega)
  have e2:b.scenes[i]? =some b.scenes[i]:=List.getElem?_eq_getElem hi
  exact .inr ⟨_,_,e1,e2,h.sc i _ _ e1 e2⟩
 ·exact .inl ⟨List.getElem?_eq_none (by omega),List.getElem?_eq_none (by omega)⟩
theorem esy_mn(h:Esy b d)(L:List Int)(p:Int):∀n,sumI (mnS d [] L p true n)≤sumI (mnS b [] L p true n):=by
 intro n
 induction n with
 |zero=>exact Int.le_refl _
 |succ n ih=>
  rcases h.two n with ⟨e1,e2⟩|⟨q,r,e1,e2,e3,e4,e5,e6⟩
  ·have k1:mnS d [] L p true (n+1)=mnS d [] L p true n:=by
    show _++(match d.scenes[n]? with|none=>[]|some q=>elM [] L p true n q)=_
    rw[e1];simp
   have k2:mnS b [] L p true (n+1)=mnS b [] L p true n:=by
    show _++(match b.scenes[n]? with|none=>[]|some q=>elM [] L p true n q)=_
    rw[e2];simp
   rw[k1,k2];exact ih
  ·rw[mnS_at e1,mnS_at e2,sum_app,sum_app]
   unfold elM
   rw[e3]
   by_cases hc:r.part≠p∨(n:Int)∈L
   ·rw[if_pos hc,if_pos hc];omega
   ·rw[if_neg hc,if_neg hc]
    show _+(q.hi+0)≤_+(r.hi+0)
    omega
theorem esy_cl(h:Esy b d)(L:List Int):∀p,clS d [] L true p≤clS b [] L true p:=by
 intro p
 induction p with
 |zero=>exact h.bg
 |succ p ih=>
  have h1:=esy_mn h L p b.scenes.length
  have h2:=h.op p
  show max (clS d [] L true p) ((d.opens[p]?).getD 0)+sumI (mnS d [] L p true d.scenes.length)≤max (clS b [] L true p) ((b.opens[p]?).getD 0)+_
  rw[h.sn]
  omega
theorem esy_fit(h:Esy b d){L:List Int}(hf:fitB b [] L=true):fitB d [] L=true:=by
 rw[fit_iff]at hf ⊢
 intro p hp
 have h1:=hf p hp
 have h2:=esy_cl h L (p+1)
 have h3:=h.en p
 omega
theorem esy_must(h:Esy b d)(i:Nat):zEk d i=zEk b i:=by
 unfold zEk
 rcases h.two i with ⟨e1,e2⟩|⟨q,r,e1,e2,e3,e4,e5,e6⟩
 ·rw[e1,e2]
 ·rw[e1,e2];exact e5
theorem esy_wt(h:Esy b d)(L:List Int):wt d L=wt b L:=by
 have e:wtA d=wtA b:=by
  funext x
  unfold wtA
  rcases h.two x.toNat with ⟨e1,e2⟩|⟨q,r,e1,e2,e3,e4,e5,e6⟩
  ·rw[e1,e2]
  ·rw[e1,e2];exact e4
 unfold wt;rw[e]
theorem esy_chs(h:Esy b d)(L:List Int):L∈chs d []↔L∈chs b []:=by
 have e:∀P n,okN d [] P n=okN b [] P n:=fun P n=>by
  have e1:∀lv i,canB d [] lv i=canB b [] lv i:=fun lv i=>by unfold canB;rw[esy_must h]
  induction n with
  |zero=>rfl
  |succ n ih=>
   have h1:=zDz (b:=d) (d:=[]) (P:=P) (n+1)
   have h2:=zDz (b:=b) (d:=[]) (P:=P) (n+1)
   simp only[e1]at h1
   exact Bool.eq_iff_iff.2 (h1.trans h2.symm)
 rw[mem_chs,mem_chs,h.sn]
 simp only[e]
theorem esy_lgt(h:Esy b d){m:List Int}(hm:lgt b []=some m):∃m2,lgt d []=some m2∧m2∈chs b []∧wt b m2≤wt b m:=by
 obtain⟨⟨h1,h2⟩,_⟩:=zFA hm
 have g1:=(esy_chs h m).2 h1
 have g2:=esy_fit h h2
 cases ho:lgt d []with
 |none=>rw[lgt_none ho m g1]at g2;cases g2
 |some m2=>
  obtain⟨⟨k1,_⟩,k2⟩:=zFA ho
  refine⟨m2,rfl,(esy_chs h m2).1 k1,?_⟩
  have k3:=k2 m g1 g2
  have k3: ¬ (ltB (wt d) m m2=true):=by rw[k3];decide
  rw[zGV,esy_wt h,esy_wt h]at k3
  by_cases k4:wt b m<wt b m2
  ·exact absurd (.inl k4) k3
  ·omega
theorem esy_self(b:Bk):Esy b b:=⟨Int.le_refl _,fun _=>Int.le_refl _,fun _=>Int.le_refl _,rfl,fun i q r h1 h2=>by rw[h1]at h2;cases h2;exact⟨rfl,rfl,rfl,Int.le_refl _⟩⟩
theorem getD_set{l:List Int}{i p:Nat}{x:Int}(hi:i<l.length):((l.set i x)[p]?).getD 0=if p=i then x else(l[p]?).getD 0:=by
 rw[List.getElem?_set]
 by_cases h:i=p
 ·subst h;rw[if_pos rfl,if_pos hi,if_pos rfl];rfl
 ·rw[if_neg h,if_neg (fun e=>h e.symm)]
theorem mem_set{l:List Int}{i:Nat}{x:Int}{P:Int→Prop}(h:∀y∈l,P y)(hx:P x):∀y∈l.set i x,P y:=fun y hy=>by
 rcases List.mem_or_eq_of_mem_set hy with h1|rfl
 ·exact h y h1
 ·exact hx
theorem esy_bg(h:BOk b){x:Int}(hx:0≤x∧x≤b.bg):BOk {b with bg:=x}∧Esy b {b with bg:=x}:=by
 have:=h.bg
 exact⟨⟨h.op,h.en,h.sn,h.ln,h.pn,by show 0≤x∧x≤2000;omega,h.ops,h.ens,h.sc,h.fe,h.co,h.fs,h.lo,h.ca,h.sh⟩,⟨hx.2,fun _=>Int.le_refl _,fun _=>Int.le_refl _,rfl,(esy_self b).sc⟩⟩
theorem esy_op(h:BOk b){i:Nat}{x y:Int}(hy:b.opens[i]? =some y)(hx:0≤x∧x≤y):BOk {b with opens:=b.opens.set i x}∧Esy b {b with opens:=b.opens.set i x}:=by
 have hb:=h.ops y (List.mem_of_getElem? hy)
 have hil:=(List.getElem?_eq_some_iff.1 hy).1
 refine⟨⟨by show(b.opens.set i x).length=3;rw[List.length_set];exact h.op,h.en,h.sn,h.ln,h.pn,h.bg,mem_set h.ops (by omega),h.ens,h.sc,h.fe,h.co,h.fs,h.lo,h.ca,h.sh⟩,⟨Int.le_refl _,fun p=>?_,fun _=>Int.le_refl _,rfl,(esy_self b).sc⟩⟩
 show((b.opens.set i x)[p]?).getD 0≤_
 rw[getD_set hil]
 split
 ·rename_i e;subst e;rw[hy];exact hx.2
 ·exact Int.le_refl _
theorem esy_en(h:BOk b){i:Nat}{x y:Int}(hy:b.ends[i]? =some y)(hx:y≤x∧x≤2000):BOk {b with ends:=b.ends.set i x}∧Esy b {b with ends:=b.ends.set i x}:=by
 have hb:=h.ens y (List.mem_of_getElem? hy)
 have hil:=(List.getElem?_eq_some_iff.1 hy).1
 refine⟨⟨h.op,by show(b.ends.set i x).length=3;rw[List.length_set];exact h.en,h.sn,h.ln,h.pn,h.bg,h.ops,mem_set h.ens (by omega),h.sc,h.fe,h.co,h.fs,h.lo,h.ca,h.sh⟩,⟨Int.le_refl _,fun _=>Int.le_refl _,fun p=>?_,rfl,(esy_self b).sc⟩⟩
 show _≤((b.ends.set i x)[p]?).getD 0
 rw[getD_set hil]
 split
 ·rename_i e;subst e;rw[hy];exact hx.1
 ·exact Int.le_refl _
theorem esy_sc(h:BOk b){i:Nat}{q:Sc}{u v:Int}(hq:b.scenes[i]? =some q)(hx:0≤u∧u≤v∧v≤q.hi):BOk {b with scenes:=b.scenes.set i ⟨q.part,q.wt,u,v,q.must⟩}∧Esy b {b with scenes:=b.scenes.set i ⟨q.part,q.wt,u,v,q.must⟩}:=by
 have hb:=h.sc i q hq
 have hil:=(List.getElem?_eq_some_iff.1 hq).1
 have e:∀j,(b.scenes.set i ⟨q.part,q.wt,u,v,q.must⟩)[j]? =if j=i then some ⟨q.part,q.wt,u,v,q.must⟩else b.scenes[j]? :=fun j=>by
  rw[List.getElem?_set]
  by_cases h:i=j
  ·subst h;rw[if_pos rfl,if_pos hil,if_pos rfl]
  ·rw[if_neg h,if_neg (fun e=>h e.symm)]
 have hp:∀j,prA (b.scenes.set i ⟨q.part,q.wt,u,v,q.must⟩) j=prA b.scenes j:=fun j=>by
  cases j with
  |zero=>rfl
  |succ j=>
   show(((b.scenes.set i ⟨q.part,q.wt,u,v,q.must⟩)[j]?).map Sc.part).getD 0=((b.scenes[j]?).map Sc.part).getD 0
   rw[e]
   split
   ·rename_i e;subst e;rw[hq];rfl
   ·rfl
 refine⟨⟨h.op,h.en,by show 1≤(b.scenes.set i _).length∧(b.scenes.set i _).length≤10;rw[List.length_set];exact h.sn,h.ln,h.pn,h.bg,h.ops,h.ens,fun j r hr=>?_,h.fe,h.co,h.fs,h.lo,h.ca,h.sh⟩,⟨Int.le_refl _,fun _=>Int.le_refl _,fun _=>Int.le_refl _,List.length_set,fun j r s hr hs=>?_⟩⟩
 ·replace hr:(b.scenes.set i ⟨q.part,q.wt,u,v,q.must⟩)[j]? =some r:=hr
  show(prA (b.scenes.set i ⟨q.part,q.wt,u,v,q.must⟩) j≤r.part∧r.part≤2)∧_
  rw[hp]
  rw[e]at hr
  split at hr
  ·rename_i e;subst e
   cases hr
   exact⟨hb.1,hb.2.1,by show 0≤u∧u≤v∧v≤600;omega⟩
  ·exact h.sc j r hr
 ·replace hr:(b.scenes.set i ⟨q.part,q.wt,u,v,q.must⟩)[j]? =some r:=hr
  rw[e]at hr
  split at hr
  ·rename_i e;subst e
   cases hr
   rw[hq]at hs;cases hs
   exact⟨rfl,rfl,rfl,hx.2.2⟩
  ·rw[hr]at hs;cases hs;exact⟨rfl,rfl,rfl,Int.le_refl _⟩
theorem zFD(l:List Int):yB (zF l)=zF l:=by
 induction l with
 |nil=>rfl
 |cons q l ih=>show _::yB (zF l)=_;rw[ih];rfl
theorem int_dg(l:List Int):(zF l).map dg=zF l:=by
 induction l with
 |nil=>rfl
 |cons q l ih=>show _::(zF l).map dg=_;rw[ih];rfl
theorem int_one(l:List Int):(yB (zF l)).all oneU=true:=by
 rw[zFD]
 induction l with
 |nil=>rfl
 |cons q l ih=>exact ih
def scF(l:List Sc):List U:=l.flatMap Sc.cs
theorem scF_flat(l:List Sc):yB (scsU l)=scF l:=by
 induction l with
 |nil=>rfl
 |cons q l ih=>show q.cs++yB (scsU l)=_;rw[ih];rfl
theorem scF_dg(l:List Sc):(scF l).map dg=scF l:=by
 induction l with
 |nil=>rfl
 |cons q l ih=>show q.cs++(scF l).map dg=_;rw[ih];rfl
theorem scF_len(l:List Sc):(scF l).length=l.length*5:=by
 induction l with
 |nil=>rfl
 |cons q l ih=>show(scF l).length+1+1+1+1+1=_;rw[ih];simp;omega
theorem scF_one(l:List Sc):(yB (scsU l)).all oneU=true:=by
 rw[scF_flat]
 induction l with
 |nil=>rfl
 |cons q l ih=>exact ih
theorem scF_set(l:List Sc):∀(i:Nat) (q:Sc),i<l.length→(scF l).take (i*5)++q.cs++(scF l).drop (i*5+5)=scF (l.set i q):=by
 induction l with
 |nil=>intro i q h;exact absurd h (Nat.not_lt_zero _)
 |cons x l ih=>
  intro i q h
  cases i with
  |zero=>rfl
  |succ i=>
   have:=ih i q (by simpa using h)
   show(x.cs++scF l).take ((i+1)*5)++_++(x.cs++scF l).drop ((i+1)*5+5)=x.cs++scF (l.set i q)
   rw[←this,show(i+1)*5=i*5+1+1+1+1+1 by omega];rfl
end
section
variable {is:FuncId→Bool}{orc:Known}
theorem by50:Program.bytesOf Tryd.prog 50=40:=by kernel_rfl
theorem ze25:yV Tryd.prog 25=some ((.cons (.int .i64 0) (.cons .nils (.cons .nils (.cons .nils (.cons (.int .i64 0) (.cons .nils (.cons (.int .i64 0) (.cons (.int .i64 0) (.cons (.int .i64 0) (.cons .nils .nil)))))))))):V):=by kernel_rfl
theorem ap23_23:AppT Tryd.prog 23 23 50 5 40 ((.cons (.int .i64 0) (.cons (.int .i64 0) (.cons (.int .i64 0) (.cons (.int .i64 0) (.cons (.bool false) .nil))))):V):=⟨ty23,⟨_,ty23⟩,cl50,by decide,by50,ze50,rfl⟩
noncomputable def b9:Code:=(Tryd.f9.body).getD .skip
theorem body9:bodyOf Tryd.prog 9=some (159,b9,[.tmp 4]):=by kernel_rfl
theorem pure9:pureFn Tryd.prog 9=false:=by kernel_rfl
abbrev n3C(n0 n1 n2:Int):List U:=[.int .i64 n0,.int .i64 n1,.int .i64 n2]
abbrev bkC(d:Bk)(u1 u2 u3:U):List U:=[.int .i64 d.bg,u1,u2,u3,.int .i64 d.fee,.lst .ro 1 (zF d.loads),.int .i64 d.cart,.int .i64 d.cost,.int .i64 d.feast,.lst .ro 1 (zF d.shares)]
structure EsS(b:Bk)(n0 n1 n2:Int)(s:St):Prop where
 ex:∃(d:Bk) (u1 u2 u3:U) (e:List SB),BOk d∧Esy b d∧US ([.box (Bk.cs b),.box (n3C n0 n1 n2),.box (bkC d u1 u2 u3)]++e) (.u (.agg (bkC d u1 u2 u3))) (.u d.u)∧s.st=[.box (Bk.cs b),.box (n3C n0 n1 n2),.box (bkC d u1 u2 u3)]++e
 sl:Holds s [(2,.box 0 0),(5,.box 2 0)]
theorem o_store1W{P:Program}{s:St}{all l:List Oper}{Q:St→Prop}{x y:Operand}{a off:Nat}{cs ws:List U}{t t':TypeId}{p:String}{e:Array Edge}(hx:zW s x=.box a off)(hb:s.st[a]? =some (.box cs))(hsh:shOf P t'=.one)(hl:off<cs.length)(ho:oneU (zW s y)=true)
  (hw:cs.set off (zW s y)=ws) (k:WpO P is orc all l ((s.dropO y).wr a ws) Q):WpO P is orc all (⟨none,.store t' x y,t,p,e,none⟩::l) s Q:=by
 subst hw
 exact yl hx hb hsh (by rw[Nat.blt_eq];exact hl) ho k
theorem int_put(l:List Int)(i:Nat)(x:Int)(h:i<l.length):(zF l).set (0+(i:Int).toNat*1) (U.int .i64 x)=zF (l.set i x):=by
 rw[Int.toNat_natCast,Nat.zero_add,Nat.mul_one]
 exact(List.map_set).symm
theorem sc_put(l:List Sc)(i:Nat)(q:Sc)(h:i<l.length):(scF l).take (0+(i:Int).toNat*5)++q.cs.map dg++(scF l).drop (0+(i:Int).toNat*5+5)=scF (l.set i q):=by
 rw[Int.toNat_natCast,Nat.zero_add];exact scF_set l i q h
theorem ints_us{st:List SB}{l:List Int}{a n:Nat}(h:st[a]? =some (.froz ((zF l).map dg)))(hn:l.length=n):US st (.u (.sl a 0 n 1)) (.u (.lst .ro 1 (zF l))):=by
 rw[int_dg]at h
 have hl:(zF l).length=n:=by rw[List.length_map,hn]
 refine .sl _ _ _ _ _ _ h ?_ (fun e he=>?_) hl (by omega)
 ·rw[zFD,List.drop_zero,List.take_of_length_le (by omega)]
 ·obtain⟨q,_,rfl⟩:=List.mem_map.1 he;rfl
theorem scs_us{st:List SB}{l:List Sc}{a n:Nat}(h:st[a]? =some (.froz ((scF l).map dg)))(hn:l.length=n):US st (.u (.sl a 0 n 5)) (.u (.lst .ro 5 (scsU l))):=by
 rw[scF_dg]at h
 have hl:(scF l).length=n*5:=by rw[scF_len,hn]
 refine .sl _ _ _ _ _ _ h ?_ (fun e he=>?_) (by rw[List.length_map,hn]) (by omega)
 ·rw[scF_flat,List.drop_zero,List.take_of_length_le (by omega)]
 ·obtain⟨q,_,rfl⟩:=List.mem_map.1 he;rfl
theorem bk_us{st:List SB}{d:Bk}{u1 u2 u3:U}(h1:US st (.u u1) (.u (.lst .ro 1 (zF d.opens))))(h2:US st (.u u2) (.u (.lst .ro 1 (zF d.ends))))(h3:US st (.u u3) (.u (.lst .ro 5 (scsU d.scenes)))):US st (.u (.agg (bkC d u1 u2 u3))) (.u d.u):=
 .agg _ _ (.lcons _ _ _ _ (.refl _) (.lcons _ _ _ _ h1 (.lcons _ _ _ _ h2 (.lcons _ _ _ _ h3 (.lrefl _)))))
set_option maxHeartbeats 16000000 in
set_option maxRecDepth 20000 in
theorem ret9(hi:Off is)(b:Bk)(n0 n1 n2:Int)(r24:RetP Tryd.prog is orc 24 [] (.bool true)):RetP Tryd.prog is orc 9 [b.u,.agg (n3C n0 n1 n2)] (.bool true):=by
 have q29:=ret29 (orc:=orc) hi b
 have hda:∀u∈[b.u,.agg (n3C n0 n1 n2)],Dat 8 u:=wK (zBf b 4) (.agg _ _ (zDm (k:=7) (.int _ _ _) (.int _ _ _) (.int _ _ _)))
 refine zBj body9 pure9 rfl rfl (fun u hu=>⟨(hda u hu).nb,(hda u hu).own⟩) (Dat.bool 8 true).nb ?_
 cases hv:zDW b with
 |false=>
  rw[hv]at q29
  refine kQ (yZ rfl rfl (yZ rfl rfl (zB rfl (zC ?_))))
  refine zN [(2,U.box 0 0),(3,U.box 1 0)] ([SB.box (Bk.cs b),SB.box [.int .i64 n0,.int .i64 n1,.int .i64 n2]]) (.cons rfl (.cons rfl (.nil rfl))) rfl fun fr=>?_
  refine k_seq (kQ (zV rfl rfl rfl sh25 rfl (zQ rfl (q29) (.lrefl _) (yJ rfl rfl (zC (k_cT rfl rfl ?_))))))
  refine kQ (zQ rfl (r24) (.lrefl _) (zB rfl (zC (zb ?_))))
  refine⟨.inr rfl,_,.cons _ _ _ _ (.tmp 4) .nil,?_⟩
  exact .refl _
 |true=>
  rw[hv]at q29
  have h:=(zFH b).1 hv
  have hsn:=h.sn
  have qk:=ret38 (orc:=orc) hi n0 4 (by omega)
  have qi:=ret38 (orc:=orc) hi n1 3 (by omega)
  have qt:=ret38 (orc:=orc) hi n2 60 (by omega)
  have qs:=ret38 (orc:=orc) hi n1 b.scenes.length (by omega)
  have hib:=turnI_b (n:=n1) (b:=3) (by omega)
  have htb:=turnI_b (n:=n2) (b:=60) (by omega)
  have hjb:=turnI_b (n:=n1) (b:=b.scenes.length) (by omega)
  have hkb:=turnI_b (n:=n0) (b:=4) (by omega)
  obtain⟨i,hi1⟩:∃i:Nat,zDX n1 3=i:=⟨(zDX n1 3).toNat,by omega⟩
  rw[hi1]at qi hib
  obtain⟨j,hj1⟩:∃j:Nat,zDX n1 b.scenes.length=j:=⟨(zDX n1 b.scenes.length).toNat,by omega⟩
  rw[hj1]at qs hjb
  generalize zDX n2 60=t at*
  generalize zDX n0 4=k at*
  have hop:=h.op
  have hen:=h.en
  obtain⟨o,ho⟩:∃x,b.opens[i]? =some x:=⟨b.opens[i]'(by omega),List.getElem?_eq_getElem (by omega)⟩
  obtain⟨z,hz⟩:∃x,b.ends[i]? =some x:=⟨b.ends[i]'(by omega),List.getElem?_eq_getElem (by omega)⟩
  obtain⟨q,hq⟩:∃x,b.scenes[j]? =some x:=⟨b.scenes[j]'(by omega),List.getElem?_eq_getElem (by omega)⟩
  have hob:=h.ops o (List.mem_of_getElem? ho)
  have hzb:=h.ens z (List.mem_of_getElem? hz)
  have hqb:=h.sc j q hq
  have hbg:=h.bg
  refine kQ (yZ rfl rfl (yZ rfl rfl (zB rfl (zC ?_))))
  refine zN [(2,U.box 0 0),(3,U.box 1 0)] ([SB.box (Bk.cs b),SB.box [.int .i64 n0,.int .i64 n1,.int .i64 n2]]) (.cons rfl (.cons rfl (.nil rfl))) rfl fun fr=>?_
  refine k_seq (kQ (zV rfl rfl rfl sh25 rfl (zQ rfl (q29) (.lrefl _) (yJ rfl rfl (zC (k_cF rfl rfl ?_))))))
  refine zS (kQ (zV rfl rfl rfl sh25 rfl (yK rfl ze25 ?_)))
  refine zw rfl rfl sh25 rfl rfl rfl rfl rfl ?_
  refine zC ?_
  refine zN [(2,U.box 0 0),(3,U.box 1 0),(5,U.box 2 0)] ([SB.box (Bk.cs b),SB.box [.int .i64 n0,.int .i64 n1,.int .i64 n2],SB.box (Bk.cs b)]) (.cons rfl (.cons rfl (.cons rfl (.nil rfl)))) rfl fun fr=>?_
  refine k_seq (zBa [.plain,.read true,.read false,.plain,.read true,.plain,.plain,.plain] (by kernel_rfl) (by kernel_rfl) (by kernel_rfl) ?_)
  refine zI (zAF rfl ty44 rfl rfl (by omega) (by omega) cl3 (zC rfl)) ?_
  refine yO rfl (zE rfl rfl rfl sh3 rfl (zC rfl)) (zCe rfl (qt) (.int _ _) (.lrefl _) ?_)
  refine zI (zAF rfl ty44 rfl rfl (by omega) (by omega) cl3 (zC rfl)) ?_
  refine yO rfl (zE rfl rfl rfl sh3 rfl (zC rfl)) (zI (zQ rfl (qi) (.lrefl _) (zC rfl)) ?_)
  refine zI (zB rfl (zC rfl)) ?_
  refine zI (zB rfl (zC rfl)) ?_
  refine zEQ ?_
  refine k_cut (EsS b n0 n1 n2) ?_ (fun st hM=>?_)
  ·rcases(show k=0∨k=1∨k=2∨k=3 by omega)with rfl|rfl|rfl|rfl
   ·refine kQ ?_
    refine zAF rfl ty44 rfl rfl (by omega) (by omega) cl3 ?_
    refine zE rfl rfl rfl sh3 rfl (zQ rfl (qk) (.lrefl _) (zC (zM (kQ (wj rfl rfl rfl (zB rfl (zC (k_cT rfl rfl ?_))))))))
    refine kQ (zCH (es:=[]) rfl ty22 ze3 cl3 rfl rfl rfl rfl rfl rfl rfl rfl ?_)
    refine zD rfl rfl zAM (zE rfl rfl rfl sh22 rfl (zFX rfl zCh rfl rfl (by simp) (by simp) (int_one _) (by rw[zFD,int_dg]) (List.length_map _) (by omega) (by omega) ?_))
    refine zD rfl rfl zAM (yl rfl rfl sh22 rfl rfl (zC ?_))
    refine zN [(2,U.box 0 0),(5,U.box 2 0),(6,.int .i64 t),(7,.int .i64 ↑i)] ([SB.box (Bk.cs b),SB.box [.int .i64 n0,.int .i64 n1,.int .i64 n2],SB.box [.int .i64 (Bk.bg b),.lst .ro 1 (zF (Bk.opens b)),U.sl 3 0 (List.length (Bk.ends b)) 1,.lst .ro 5 (scsU (Bk.scenes b)),.int .i64 (Bk.fee b),.lst .ro 1 (zF (Bk.loads b)),.int .i64 (Bk.cart b),.int .i64 (Bk.cost b),.int .i64 (Bk.feast b),.lst .ro 1 (zF (Bk.shares b))],SB.box (zF (Bk.ends b))]) (.c4 rfl rfl rfl rfl (.nil rfl)) rfl fun fr=>?_
    refine zBa [.plain,.read true,.plain,.plain,.read true,.plain,.plain,.read true,.plain,.plain,.read true,.plain,.plain] (by kernel_rfl) (by kernel_rfl) (by kernel_rfl) ?_
    refine zI (zD rfl rfl zAM (zC rfl)) ?_
    refine yO rfl (zE rfl rfl rfl sh22 rfl (zC rfl)) (zI (zA rfl (zC rfl)) (zI (zD rfl rfl zAM (zC rfl)) ?_))
    refine yO rfl (zE rfl rfl rfl sh22 rfl (zC rfl)) (zI (zA rfl (zC rfl)) (zI (yD (u:=.int .i64 (z)) rfl ty22 rfl rfl (Int.natCast_nonneg _) (by simp[hz]) cl3 (zC rfl)) ?_))
    refine yO rfl (zU rfl rfl sh3 rfl (zC rfl)) ?_
    refine zI (zA rfl (zC rfl)) ?_
    refine zCd [(2,U.box 0 0),(5,U.box 2 0),(71,U.sl 3 0 (List.length (Bk.ends b)) 1),(72,.int .i64 ↑i),(77,.int .i64 z),(78,.int .i64 t)] [] ([SB.box (Bk.cs b),SB.box [.int .i64 n0,.int .i64 n1,.int .i64 n2],SB.box [.int .i64 (Bk.bg b),.lst .ro 1 (zF (Bk.opens b)),U.sl 3 0 (List.length (Bk.ends b)) 1,.lst .ro 5 (scsU (Bk.scenes b)),.int .i64 (Bk.fee b),.lst .ro 1 (zF (Bk.loads b)),.int .i64 (Bk.cart b),.int .i64 (Bk.cost b),.int .i64 (Bk.feast b),.lst .ro 1 (zF (Bk.shares b))],SB.box (zF (Bk.ends b))]) (.c4 rfl rfl rfl rfl (.cons rfl (.cons rfl (.nil rfl)))) rfl rfl fun fr=>?_
    refine zI (ye rfl rfl rfl (by unfold I64;omega) (zC rfl)) ?_
    refine yO rfl (o_min rfl rfl rfl (zC rfl)) ?_
    refine zI (o_idxS rfl ty22 rfl rfl (Int.natCast_nonneg _) (by omega) cl3 (zC rfl)) ?_
    refine zI (o_store1W rfl rfl sh3 (by rw[List.length_map];omega) rfl (int_put _ _ _ (by omega)) (o_frz (a:=3) rfl (zC rfl))) ?_
    refine zEQ ?_
    obtain⟨h1,h2⟩:=esy_en h hz (x:=min 2000 (z+t)) (by omega)
    exact⟨rfl,⟨⟨_,_,.sl 3 0 b.ends.length 1,_,[_],h1,h2,bk_us (.refl _) (ints_us rfl List.length_set) (.refl _),rfl⟩,.cons rfl (.cons rfl (.nil rfl))⟩⟩
   ·refine kQ ?_
    refine zAF rfl ty44 rfl rfl (by omega) (by omega) cl3 ?_
    refine zE rfl rfl rfl sh3 rfl (zQ rfl (qk) (.lrefl _) (zC (zM (kQ (wj rfl rfl rfl (zB rfl (zC (k_cF rfl rfl ?_))))))))
    refine kQ (wj rfl rfl rfl (zB rfl (zC (k_cT rfl rfl ?_))))
    refine kQ (zCH (es:=[]) rfl ty22 ze3 cl3 rfl rfl rfl rfl rfl rfl rfl rfl ?_)
    refine zD rfl rfl wX (zE rfl rfl rfl sh22 rfl (zFX rfl zCh rfl rfl (by simp) (by simp) (int_one _) (by rw[zFD,int_dg]) (List.length_map _) (by omega) (by omega) ?_))
    refine zD rfl rfl wX (yl rfl rfl sh22 rfl rfl (zC ?_))
    refine zN [(2,U.box 0 0),(5,U.box 2 0),(6,.int .i64 t),(7,.int .i64 ↑i)] ([SB.box (Bk.cs b),SB.box [.int .i64 n0,.int .i64 n1,.int .i64 n2],SB.box [.int .i64 (Bk.bg b),U.sl 3 0 (List.length (Bk.opens b)) 1,.lst .ro 1 (zF (Bk.ends b)),.lst .ro 5 (scsU (Bk.scenes b)),.int .i64 (Bk.fee b),.lst .ro 1 (zF (Bk.loads b)),.int .i64 (Bk.cart b),.int .i64 (Bk.cost b),.int .i64 (Bk.feast b),.lst .ro 1 (zF (Bk.shares b))],SB.box (zF (Bk.opens b))]) (.c4 rfl rfl rfl rfl (.nil rfl)) rfl fun fr=>?_
    refine zBa [.plain,.read true,.plain,.plain,.read true,.plain,.plain,.read true,.plain,.plain,.read true,.plain,.plain] (by kernel_rfl) (by kernel_rfl) (by kernel_rfl) ?_
    refine zI (zD rfl rfl wX (zC rfl)) ?_
    refine yO rfl (zE rfl rfl rfl sh22 rfl (zC rfl)) (zI (zA rfl (zC rfl)) (zI (zD rfl rfl wX (zC rfl)) ?_))
    refine yO rfl (zE rfl rfl rfl sh22 rfl (zC rfl)) (zI (zA rfl (zC rfl)) (zI (yD (u:=.int .i64 (o)) rfl ty22 rfl rfl (Int.natCast_nonneg _) (by simp[ho]) cl3 (zC rfl)) ?_))
    refine yO rfl (zU rfl rfl sh3 rfl (zC rfl)) ?_
    refine zI (zA rfl (zC rfl)) ?_
    refine zCd [(2,U.box 0 0),(5,U.box 2 0),(90,U.sl 3 0 (List.length (Bk.opens b)) 1),(91,.int .i64 ↑i),(96,.int .i64 o),(97,.int .i64 t)] [] ([SB.box (Bk.cs b),SB.box [.int .i64 n0,.int .i64 n1,.int .i64 n2],SB.box [.int .i64 (Bk.bg b),U.sl 3 0 (List.length (Bk.opens b)) 1,.lst .ro 1 (zF (Bk.ends b)),.lst .ro 5 (scsU (Bk.scenes b)),.int .i64 (Bk.fee b),.lst .ro 1 (zF (Bk.loads b)),.int .i64 (Bk.cart b),.int .i64 (Bk.cost b),.int .i64 (Bk.feast b),.lst .ro 1 (zF (Bk.shares b))],SB.box (zF (Bk.opens b))]) (.c4 rfl rfl rfl rfl (.cons rfl (.cons rfl (.nil rfl)))) rfl rfl fun fr=>?_
    refine zI (o_sub rfl rfl rfl (by unfold I64;omega) (zC rfl)) ?_
    refine yO rfl (zGD rfl rfl rfl (zC rfl)) ?_
    refine zI (o_idxS rfl ty22 rfl rfl (Int.natCast_nonneg _) (by omega) cl3 (zC rfl)) ?_
    refine zI (o_store1W rfl rfl sh3 (by rw[List.length_map];omega) rfl (int_put _ _ _ (by omega)) (o_frz (a:=3) rfl (zC rfl))) ?_
    refine zEQ ?_
    obtain⟨h1,h2⟩:=esy_op h ho (x:=max 0 (o - t)) (by omega)
    exact⟨rfl,⟨⟨_,.sl 3 0 b.opens.length 1,_,_,[_],h1,h2,bk_us (ints_us rfl List.length_set) (.refl _) (.refl _),rfl⟩,.cons rfl (.cons rfl (.nil rfl))⟩⟩
   ·refine kQ ?_
    refine zAF rfl ty44 rfl rfl (by omega) (by omega) cl3 ?_
    refine zE rfl rfl rfl sh3 rfl (zQ rfl (qk) (.lrefl _) (zC (zM (kQ (wj rfl rfl rfl (zB rfl (zC (k_cF rfl rfl ?_))))))))
    refine kQ (wj rfl rfl rfl (zB rfl (zC (k_cF rfl rfl ?_))))
    refine kQ (wj rfl rfl rfl (zB rfl (zC (k_cT rfl rfl ?_))))
    refine k_region (zD rfl rfl zFn (zE rfl rfl rfl sh3 rfl (zA rfl ?_)))
    refine o_sub rfl rfl rfl (by unfold I64;omega) (zGD rfl rfl rfl ?_)
    refine zD rfl rfl zFn (yl rfl rfl sh3 rfl rfl (zC ?_))
    obtain⟨h1,h2⟩:=esy_bg h (x:=max 0 (b.bg - t)) (by omega)
    exact⟨rfl,⟨⟨_,_,_,_,[],h1,h2,bk_us (.refl _) (.refl _) (.refl _),rfl⟩,.cons rfl (.cons rfl (.nil rfl))⟩⟩
   ·refine kQ ?_
    refine zAF rfl ty44 rfl rfl (by omega) (by omega) cl3 ?_
    refine zE rfl rfl rfl sh3 rfl (zQ rfl (qk) (.lrefl _) (zC (zM (kQ (wj rfl rfl rfl (zB rfl (zC (k_cF rfl rfl ?_))))))))
    refine kQ (wj rfl rfl rfl (zB rfl (zC (k_cF rfl rfl ?_))))
    refine kQ (wj rfl rfl rfl (zB rfl (zC (k_cF rfl rfl ?_))))
    refine kQ (zAF rfl ty44 rfl rfl (by omega) (by omega) cl3 ?_)
    refine zE rfl rfl rfl sh3 rfl (zD rfl rfl yM (zE rfl rfl rfl sh23 rfl (zl rfl ty23 rfl (List.length_map _) ?_)))
    refine zQ rfl (qs) (.lrefl _) (zB rfl (zC ?_))
    refine zN [(2,U.box 0 0),(5,U.box 2 0),(6,.int .i64 t),(8,.int .i64 ↑j)] ([SB.box (Bk.cs b),SB.box [.int .i64 n0,.int .i64 n1,.int .i64 n2],SB.box (Bk.cs b)]) (.c4 rfl rfl rfl rfl (.nil rfl)) rfl fun fr=>?_
    refine kQ (zD rfl rfl yM (zE rfl rfl rfl sh23 rfl (zA rfl (yD (u:=(q).u) rfl ty23 rfl rfl (Int.natCast_nonneg _) (by simp[hq]) cl50 ?_))))
    refine wH rfl rfl sh50 rfl ?_
    refine yK rfl ze50 ?_
    refine zw rfl rfl sh50 rfl rfl rfl rfl rfl ?_
    refine zC ?_
    refine zN [(2,U.box 0 0),(5,U.box 2 0),(6,.int .i64 t),(8,.int .i64 ↑j),(9,U.box 3 0)] ([SB.box (Bk.cs b),SB.box [.int .i64 n0,.int .i64 n1,.int .i64 n2],SB.box (Bk.cs b),SB.box [.int .i64 (Sc.part q),.int .i64 (Sc.wt q),.int .i64 (Sc.lo q),.int .i64 (Sc.hi q),U.bool (Sc.must q)]]) (.c4 rfl rfl rfl rfl (.cons rfl (.nil rfl))) rfl fun fr=>?_
    refine kQ (zD rfl rfl wO (zD rfl rfl wk (zE rfl rfl rfl sh3 rfl (zA rfl ?_))))
    refine o_sub rfl rfl rfl (by unfold I64;omega) (zGD rfl rfl rfl ?_)
    refine zD rfl rfl wO (zD rfl rfl zAx (zE rfl rfl rfl sh3 rfl ?_))
    refine zL [(2,U.box 0 0),(5,U.box 2 0),(6,.int .i64 t),(8,.int .i64 ↑j),(9,U.box 3 0),(44,.int .i64 (Max.max (0:Int) (Sc.lo q - t))),(47,.int .i64 (Sc.hi q))] [] ([SB.box (Bk.cs b),SB.box [.int .i64 n0,.int .i64 n1,.int .i64 n2],SB.box (Bk.cs b),SB.box [.int .i64 (Sc.part q),.int .i64 (Sc.wt q),.int .i64 (Sc.lo q),.int .i64 (Sc.hi q),U.bool (Sc.must q)]]) (.c4 rfl rfl rfl rfl (.cons rfl (.cons rfl (.cons rfl (.nil rfl))))) rfl rfl fun fr=>?_
    refine zA rfl ?_
    refine o_sub rfl rfl rfl (by unfold I64;omega) (zGD rfl rfl rfl ?_)
    refine zQ rfl (ret36 hi ..) (.lrefl _) ?_
    refine zD rfl rfl wO (zw rfl rfl sh48 rfl rfl rfl rfl rfl ?_)
    refine zC ?_
    refine zN [(2,U.box 0 0),(5,U.box 2 0),(8,.int .i64 ↑j),(9,U.box 3 0)] ([SB.box (Bk.cs b),SB.box [.int .i64 n0,.int .i64 n1,.int .i64 n2],SB.box (Bk.cs b),SB.box [.int .i64 (Sc.part q),.int .i64 (Sc.wt q),.int .i64 (Max.max (0:Int) (Sc.lo q - t)),.int .i64 (Max.max (0:Int) (Sc.hi q - t)),U.bool (Sc.must q)]]) (.c4 rfl rfl rfl rfl (.nil rfl)) rfl fun fr=>?_
    refine kQ (zCH (es:=[]) rfl ty23 ze50 cl50 rfl rfl rfl rfl rfl rfl rfl rfl ?_)
    refine zD rfl rfl yM (zE rfl rfl rfl sh23 rfl (zFX rfl ap23_23 rfl rfl (by simp) (by simp) (scF_one _) (by rw[scF_flat,scF_dg]) (List.length_map _) (by omega) (by omega) ?_))
    refine zD rfl rfl yM (yl rfl rfl sh23 rfl rfl (zC ?_))
    refine zN [(2,U.box 0 0),(5,U.box 2 0),(8,.int .i64 ↑j),(9,U.box 3 0)] ([SB.box (Bk.cs b),SB.box [.int .i64 n0,.int .i64 n1,.int .i64 n2],SB.box [.int .i64 (Bk.bg b),.lst .ro 1 (zF (Bk.opens b)),.lst .ro 1 (zF (Bk.ends b)),U.sl 4 0 (List.length (Bk.scenes b)) 5,.int .i64 (Bk.fee b),.lst .ro 1 (zF (Bk.loads b)),.int .i64 (Bk.cart b),.int .i64 (Bk.cost b),.int .i64 (Bk.feast b),.lst .ro 1 (zF (Bk.shares b))],SB.box [.int .i64 (Sc.part q),.int .i64 (Sc.wt q),.int .i64 (Max.max (0:Int) (Sc.lo q - t)),.int .i64 (Max.max (0:Int) (Sc.hi q - t)),U.bool (Sc.must q)],SB.box (scF (Bk.scenes b))]) (.c4 rfl rfl rfl rfl (.nil rfl)) rfl fun fr=>?_
    refine k_region (zD rfl rfl yM (zE rfl rfl rfl sh23 rfl (zA rfl (zV rfl rfl rfl sh50 rfl (o_idxS rfl ty23 rfl rfl (Int.natCast_nonneg _) (by omega) cl50 ?_)))))
    refine o_storeNW rfl rfl sh50 rfl rfl rfl (by rw[scF_len];omega) rfl (sc_put _ _ ⟨q.part,q.wt,max 0 (q.lo - t),max 0 (q.hi - t),q.must⟩ (by omega)) (o_frz (a:=4) rfl ?_)
    refine zC ?_
    obtain⟨h1,h2⟩:=esy_sc h hq (u:=max 0 (q.lo - t)) (v:=max 0 (q.hi - t)) (by omega)
    exact⟨rfl,⟨⟨_,_,_,.sl 4 0 b.scenes.length 5,[_,_],h1,h2,bk_us (.refl _) (.refl _) (scs_us rfl List.length_set),rfl⟩,.cons rfl (.cons rfl (.nil rfl))⟩⟩
  obtain⟨⟨d,u1,u2,u3,e,hd,he,hus,hst⟩,hs⟩:=hM
  have q21:=ret21 (orc:=orc) hi h
  have q21d:=ret21 (orc:=orc) hi hd
  obtain⟨fr0,al0,st0⟩:=st
  have hst:st0=_:=hst
  subst hst
  rw[hs.eq]
  cases ho:lgt b []with
  |none=>
   rw[ho]at q21
   have q21:RetP Tryd.prog is orc 21 [b.u] (.tup [.lst .full 0 [],.int .i64 4]):=q21
   cases hod:lgt d []with
   |none=>
    rw[hod]at q21d
    have q21d:RetP Tryd.prog is orc 21 [d.u] (.tup [.lst .full 0 [],.int .i64 4]):=q21d
    refine kQ (zV rfl rfl rfl sh25 rfl (zQ rfl (q21) (.lrefl _) (zA rfl (zZ rfl rfl rfl (zZ rfl rfl rfl (zB rfl (zB rfl (zC ?_))))))))
    refine kQ (zV rfl rfl rfl sh25 rfl ?_)
    refine o_see 115 rfl (fun _=>rfl) hus ?_
    refine zQ rfl (q21d) (.lrefl _) (zA rfl (zZ rfl rfl rfl (zZ rfl rfl rfl (zB rfl (zB rfl (zC ?_))))))
    refine zN [(2,U.box 0 0),(10,.lst .full 0 []),(11,.int .i64 4),(12,.lst .full 0 []),(13,.int .i64 4)] (SB.box (Bk.cs b)::SB.box (n3C n0 n1 n2)::SB.box (bkC d u1 u2 u3)::List.append [] e) (.c4 rfl rfl rfl rfl (.cons rfl (.nil rfl))) rfl fun fr=>?_
    refine k_seq (kQ (zA rfl (wz rfl rfl rfl (zC (k_cT rfl rfl ?_)))))
    refine kQ (zA rfl (wj rfl rfl rfl (zA rfl (o_gD rfl rfl rfl rfl rfl (zA rfl (o_gD rfl rfl rfl rfl rfl (wj rfl rfl rfl (o_gD rfl rfl rfl rfl rfl ?_))))))))
    refine zA rfl (o_gD rfl rfl rfl rfl rfl (zA rfl (o_gD rfl rfl rfl rfl rfl (zA rfl (o_gD rfl rfl rfl rfl rfl (wj rfl rfl rfl ?_))))))
    refine zL [(123,U.bool (decide ((4:Int)=(4:Int)))),(126,U.bool (decide ((4:Int)=(0:Int)))),(129,U.bool (decide ((4:Int)=(4:Int))))] [] (SB.box (Bk.cs b)::SB.box (n3C n0 n1 n2)::SB.box (bkC d u1 u2 u3)::List.append [] e) (.cons rfl (.cons rfl (.cons rfl (.nil rfl)))) rfl rfl fun fr=>?_
    refine o_gD rfl rfl rfl rfl rfl ?_
    refine zL [(123,U.bool (decide ((4:Int)=(4:Int)))),(126,U.bool (decide ((4:Int)=(0:Int)))),(129,U.bool (decide ((4:Int)=(4:Int))))] [] (SB.box (Bk.cs b)::SB.box (n3C n0 n1 n2)::SB.box (bkC d u1 u2 u3)::List.append [] e) (.cons rfl (.cons rfl (.cons rfl (.nil rfl)))) rfl rfl fun fr=>?_
    refine zO rfl rfl rfl ?_
    refine zR rfl rfl rfl ?_
    refine zA rfl (o_gD rfl rfl rfl rfl rfl (zQ rfl (r24) (.lrefl _) (zR rfl rfl rfl ?_)))
    refine zB rfl (zC (zb ?_))
    refine⟨.inr rfl,_,.cons _ _ _ _ (.tmp 4) .nil,?_⟩
    exact .refl _
   |some m2=>
    rw[hod]at q21d
    have q21d:RetP Tryd.prog is orc 21 [d.u] (.tup [.lst .ro 1 (zF m2),.int .i64 0]):=q21d
    refine kQ (zV rfl rfl rfl sh25 rfl (zQ rfl (q21) (.lrefl _) (zA rfl (zZ rfl rfl rfl (zZ rfl rfl rfl (zB rfl (zB rfl (zC ?_))))))))
    refine kQ (zV rfl rfl rfl sh25 rfl ?_)
    refine o_see 115 rfl (fun _=>rfl) hus ?_
    refine zQ rfl (q21d) (.lrefl _) (zA rfl (zZ rfl rfl rfl (zZ rfl rfl rfl (zB rfl (zB rfl (zC ?_))))))
    refine zN [(2,U.box 0 0),(10,.lst .full 0 []),(11,.int .i64 4),(12,.lst .ro 1 (zF m2)),(13,.int .i64 0)] (SB.box (Bk.cs b)::SB.box (n3C n0 n1 n2)::SB.box (bkC d u1 u2 u3)::List.append [] e) (.c4 rfl rfl rfl rfl (.cons rfl (.nil rfl))) rfl fun fr=>?_
    refine k_seq (kQ (zA rfl (wz rfl rfl rfl (zC (k_cT rfl rfl ?_)))))
    refine kQ (zA rfl (wj rfl rfl rfl (zA rfl (o_gD rfl rfl rfl rfl rfl (zA rfl (o_gD rfl rfl rfl rfl rfl (wj rfl rfl rfl (o_gD rfl rfl rfl rfl rfl ?_))))))))
    refine zA rfl (o_gS rfl rfl rfl rfl rfl (o_gS rfl rfl rfl rfl rfl (o_gS rfl rfl rfl rfl rfl ?_)))
    refine zL [(123,U.bool (decide ((4:Int)=(4:Int)))),(126,U.bool (decide ((0:Int)=(0:Int)))),(129,U.tup [])] [] (SB.box (Bk.cs b)::SB.box (n3C n0 n1 n2)::SB.box (bkC d u1 u2 u3)::List.append [] e) (.cons rfl (.cons rfl (.cons rfl (.nil rfl)))) rfl rfl fun fr=>?_
    refine o_gD rfl rfl rfl rfl rfl ?_
    refine zL [(123,U.bool (decide ((4:Int)=(4:Int)))),(126,U.bool (decide ((0:Int)=(0:Int)))),(129,U.tup [])] [] (SB.box (Bk.cs b)::SB.box (n3C n0 n1 n2)::SB.box (bkC d u1 u2 u3)::List.append [] e) (.cons rfl (.cons rfl (.cons rfl (.nil rfl)))) rfl rfl fun fr=>?_
    refine zR rfl rfl rfl ?_
    refine zR rfl rfl rfl ?_
    refine zA rfl (o_gD rfl rfl rfl rfl rfl (zQ rfl (r24) (.lrefl _) (zR rfl rfl rfl ?_)))
    refine zB rfl (zC (zb ?_))
    refine⟨.inr rfl,_,.cons _ _ _ _ (.tmp 4) .nil,?_⟩
    exact .refl _
  |some m=>
   obtain⟨m2,hod,hm2,hw⟩:=esy_lgt he ho
   rw[ho]at q21
   have q21:RetP Tryd.prog is orc 21 [b.u] (.tup [.lst .ro 1 (zF m),.int .i64 0]):=q21
   rw[hod]at q21d
   have q21d:RetP Tryd.prog is orc 21 [d.u] (.tup [.lst .ro 1 (zF m2),.int .i64 0]):=q21d
   have hm:=chs_cho (zFA ho).1.1
   have hm2:=chs_cho hm2
   have q31:=ret31 (orc:=orc) hi h hm
   have q31d:=ret31 (orc:=orc) hi h hm2
   have hl:=hm.len
   have hl2:=hm2.len
   have q32:=ret32 (orc:=orc) hi h (L:=m) (by omega) hm.rg
   have q32d:=ret32 (orc:=orc) hi h (L:=m2) (by omega) hm2.rg
   generalize wt b m=w at*
   generalize wt b m2=w2 at*
   refine kQ (zV rfl rfl rfl sh25 rfl (zQ rfl (q21) (.lrefl _) (zA rfl (zZ rfl rfl rfl (zZ rfl rfl rfl (zB rfl (zB rfl (zC ?_))))))))
   refine kQ (zV rfl rfl rfl sh25 rfl ?_)
   refine o_see 115 rfl (fun _=>rfl) hus ?_
   refine zQ rfl (q21d) (.lrefl _) (zA rfl (zZ rfl rfl rfl (zZ rfl rfl rfl (zB rfl (zB rfl (zC ?_))))))
   refine zN [(2,U.box 0 0),(10,.lst .ro 1 (zF m)),(11,.int .i64 0),(12,.lst .ro 1 (zF m2)),(13,.int .i64 0)] (SB.box (Bk.cs b)::SB.box (n3C n0 n1 n2)::SB.box (bkC d u1 u2 u3)::List.append [] e) (.c4 rfl rfl rfl rfl (.cons rfl (.nil rfl))) rfl fun fr=>?_
   refine k_seq (kQ (zA rfl (wz rfl rfl rfl (zC (k_cF rfl rfl ?_)))))
   refine zS (k_seq (zBa [.plain,.plain,.plain,.plain,.plain,.plain,.plain,.plain,.plain,.plain,.plain,.plain,.plain,.read true,.plain,.read false,.read true,.plain,.plain,.plain,.plain,.plain,.plain,.plain,.plain] (by kernel_rfl) (by kernel_rfl) (by kernel_rfl) ?_))
   refine zI (zA rfl (zC rfl)) (zI (wj rfl rfl rfl (zC rfl)) ?_)
   refine zI (zA rfl (zC rfl)) (d_gD rfl rfl rfl rfl rfl (zI (zV rfl rfl rfl sh25 rfl (zC rfl)) ?_))
   refine d_gD rfl rfl rfl rfl rfl (zI (zA rfl (zC rfl)) (d_gD rfl rfl rfl rfl rfl (zI (zQ rfl (q31) (.lrefl _) (zC rfl)) ?_)))
   refine zI (zR rfl rfl rfl (zC rfl)) ?_
   refine zI (zA rfl (zC rfl)) (d_gD rfl rfl rfl rfl rfl (zI (zV rfl rfl rfl sh25 rfl (zC rfl)) ?_))
   refine zCd [(2,U.box 0 0),(10,.lst .ro 1 (zF m)),(12,.lst .ro 1 (zF m2)),(142,.bool true),(143,U.agg (Bk.cs b))] [] (SB.box (Bk.cs b)::SB.box (n3C n0 n1 n2)::SB.box (bkC d u1 u2 u3)::List.append [] e) (.c4 rfl rfl rfl rfl (.cons rfl (.nil rfl))) rfl rfl fun fr=>?_
   refine d_gD rfl rfl rfl rfl rfl ?_
   refine zCd [(2,U.box 0 0),(10,.lst .ro 1 (zF m)),(12,.lst .ro 1 (zF m2)),(142,.bool true),(143,U.agg (Bk.cs b))] [] (SB.box (Bk.cs b)::SB.box (n3C n0 n1 n2)::SB.box (bkC d u1 u2 u3)::List.append [] e) (.c4 rfl rfl rfl rfl (.cons rfl (.nil rfl))) rfl rfl fun fr=>?_
   refine zI (zA rfl (zC rfl)) (d_gD rfl rfl rfl rfl rfl (zI (zQ rfl (q31d) (.lrefl _) (zC rfl)) ?_))
   refine zI (zR rfl rfl rfl (zC rfl)) ?_
   refine zI (zA rfl (zC rfl)) (d_gD rfl rfl rfl rfl rfl (yO rfl (zV rfl rfl rfl sh25 rfl (zC rfl)) ?_))
   refine d_gD rfl rfl rfl rfl rfl (zI (zA rfl (zC rfl)) (d_gD rfl rfl rfl rfl rfl (zCe rfl (q32d) (.int _ _) (.lrefl _) ?_)))
   refine d_gD rfl rfl rfl rfl rfl (yO rfl (zV rfl rfl rfl sh25 rfl (zC rfl)) ?_)
   refine d_gD rfl rfl rfl rfl rfl (zI (zA rfl (zC rfl)) ?_)
   refine zCd [(147,.bool true),(150,.int .i64 w2),(151,U.agg (Bk.cs b)),(152,.lst .ro 1 (zF m))] [] (SB.box (Bk.cs b)::SB.box (n3C n0 n1 n2)::SB.box (bkC d u1 u2 u3)::List.append [] e) (.c4 rfl rfl rfl rfl (.nil rfl)) rfl rfl fun fr=>?_
   refine d_gD rfl rfl rfl rfl rfl ?_
   refine zCd [(147,.bool true),(150,.int .i64 w2),(151,U.agg (Bk.cs b)),(152,.lst .ro 1 (zF m))] [] (SB.box (Bk.cs b)::SB.box (n3C n0 n1 n2)::SB.box (bkC d u1 u2 u3)::List.append [] e) (.c4 rfl rfl rfl rfl (.nil rfl)) rfl rfl fun fr=>?_
   refine zI (zQ rfl (q32) (.lrefl _) (zC rfl)) ?_
   refine d_gD rfl rfl rfl rfl rfl (zI (zDQ rfl rfl rfl (zC rfl)) ?_)
   refine zI (zR rfl rfl rfl (zC rfl)) ?_
   refine zI (zA rfl (zC rfl)) (d_gD rfl rfl rfl rfl (decide_eq_true (by omega)) ?_)
   refine zI (zQ rfl (r24) (.lrefl _) (zC rfl)) ?_
   refine zI (zR rfl rfl (decide_eq_true (by omega)) (zC rfl)) ?_
   refine zI (zB rfl (zC rfl)) ?_
   refine zEQ ?_
   refine zb ?_
   refine⟨.inr rfl,_,.cons _ _ _ _ (.tmp 4) .nil,?_⟩
   exact .refl _
end
end Go.Proofs.YtlknfhjfkcboiaaDoor.night
