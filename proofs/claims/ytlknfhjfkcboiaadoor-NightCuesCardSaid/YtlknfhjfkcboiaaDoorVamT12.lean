import Derived.Test.YtlknfhjfkcboiaaDoorVamT11
set_option linter.unusedVariables false
set_option linter.unusedSimpArgs false
set_option linter.constructorNameAsVariable false
namespace Go.Proofs.YtlknfhjfkcboiaaDoor.night
open Vam
section
variable {b:Bk}
theorem mn_le{d1 d2 L:List Int}{p:Int}{e1 e2:Bool}(h:∀(i:Nat) (q:Sc),b.scenes[i]? =some q→(i:Int) ∉ L→tkI d1 e1 i q≤tkI d2 e2 i q):∀n,sumI (mnS b d1 L p e1 n)≤sumI (mnS b d2 L p e2 n):=by
 intro n
 induction n with
 |zero=>exact Int.le_refl _
 |succ n ih=>
  cases hq:b.scenes[n]? with
  |none=>
   have e:∀d e,mnS b d L p e (n+1)=mnS b d L p e n:=fun d e=>by
    show _++(match b.scenes[n]? with|none=>[]|some q=>elM d L p e n q)=_
    rw[hq];simp
   rw[e,e];exact ih
  |some q=>
   rw[mnS_at hq,mnS_at hq,zEJ,zEJ]
   unfold elM
   by_cases hc:q.part≠p∨(n:Int)∈L
   ·rw[if_pos hc,if_pos hc];omega
   ·rw[if_neg hc,if_neg hc]
    have h1:=h n q hq (fun hm=>hc (.inr hm))
    show _+(_+0)≤_+(_+0)
    omega
theorem cl_le{d1 d2 L:List Int}{e1 e2:Bool}(h:∀(i:Nat) (q:Sc),b.scenes[i]? =some q→(i:Int) ∉ L→tkI d1 e1 i q≤tkI d2 e2 i q):∀p,clS b d1 L e1 p≤clS b d2 L e2 p:=by
 intro p
 induction p with
 |zero=>exact Int.le_refl _
 |succ p ih=>
  have h1:=mn_le (p:=p) h b.scenes.length
  show max (clS b d1 L e1 p) ((b.opens[p]?).getD 0)+_≤max (clS b d2 L e2 p) ((b.opens[p]?).getD 0)+_
  omega
theorem fit_iff{d L:List Int}:fitB b d L=true↔ ∀p,p<3→clS b d L true (p+1)≤(b.ends[p]?).getD 0:=by
 unfold fitB dlI
 rw[Bool.and_eq_true,Bool.and_eq_true,decide_eq_true_eq,decide_eq_true_eq,decide_eq_true_eq]
 constructor
 ·rintro⟨h1,h2,h3⟩ p hp
  rcases(show p=0∨p=1∨p=2 by omega)with rfl|rfl|rfl<;>omega
 ·intro h
  have h0:=h 0 (by decide)
  have h1:=h 1 (by decide)
  have h2:=h 2 (by decide)
  omega
theorem mem_P{P:Nat→Bool}{n i:Nat}(hi:i<n):(i:Int)∈memP P n↔P i=true:=by
 rw[zDu]
 constructor
 ·rintro⟨j,_,h2,h3⟩
  have:i=j:=by omega
  rw[this];exact h3
 ·intro h;exact⟨i,hi,rfl,h⟩
theorem wt_app(A B:List Int):wt b (A++B)=wt b A+wt b B:=by
 unfold wt
 rw[List.map_append,zEJ]
theorem app_at{d:List Int}{x:Int}{i:Nat}(h:i<d.length):(d++[x])[i]? =d[i]? :=List.getElem?_append_left h
theorem cue_step{d m:List Int}{x:Int}{q:Sc}(h:m∈chs b d)(hf:fitB b d m=true)(hq:b.scenes[d.length]? =some q)(h1:(d.length:Int)∈m→x= -1)(h2:(d.length:Int) ∉ m→0≤x∧x≤q.hi):m∈chs b (d++[x])∧fitB b (d++[x]) m=true:=by
 have hl:=(List.getElem?_eq_some_iff.1 hq).1
 have hx:(d++[x])[d.length]? =some x:=by simp
 refine⟨?_,fit_iff.2 fun p hp=>Int.le_trans (cl_le (fun i r hr hm=>?_) _) (fit_iff.1 hf p hp)⟩
 ·obtain⟨P,h3,rfl⟩:=mem_chs.1 h
  refine mem_chs.2 ⟨P,(zDX _).2 fun i hi=>?_,rfl⟩
  have h4:=(zDX _).1 h3 i hi
  unfold canB at h4 ⊢
  rw[List.length_append,List.length_singleton]
  by_cases c1:i<d.length
  ·rw[if_pos c1]at h4
   rw[if_pos (by omega),app_at c1];exact h4
  ·rw[if_neg c1]at h4
   by_cases c2:i=d.length
   ·subst c2
    rw[if_pos (by omega),hx]
    refine kH ?_
    rw[mem_P hl]at h1 h2
    show P d.length=decide (x= -1)
    cases hp:P d.length with
    |true=>rw[kH (h1 hp)]
    |false=>rw[kI (by have:=h2 (by rw[hp];decide);omega)]
   ·rw[if_neg (by omega)];exact h4
 ·unfold tkI
  rw[List.length_append,List.length_singleton]
  by_cases c1:i<d.length
  ·rw[if_pos c1,if_pos (by omega),app_at c1];exact Int.le_refl _
  ·rw[if_neg c1]
   by_cases c2:i=d.length
   ·subst c2
    rw[if_pos (by omega),hx]
    rw[hq]at hr;cases hr
    exact(h2 hm).2
   ·rw[if_neg (by omega)];exact Int.le_refl _
theorem lgt_le{d m:List Int}(h:m∈chs b d)(hf:fitB b d m=true):∃m2,lgt b d=some m2∧wt b m2≤wt b m:=by
 cases ho:lgt b d with
 |none=>have:=lgt_none ho m h;rw[hf]at this;cases this
 |some m2=>
  refine⟨m2,rfl,?_⟩
  have:=(zFP ho).2 m h hf
  by_cases hlt:wt b m<wt b m2
  ·rw[zGi.2 (.inl hlt)]at this;cases this
  ·omega
theorem chs_cho2{d m r:List Int}(h:m∈chs b d)(hr:m=zAH d++r)(hg:∀x∈r,(d.length:Int)≤x):Cho b r:=by
 obtain⟨P,h1,h2⟩:=mem_chs.1 h
 have hp:m.Pairwise (fun x y=>x<y):=by rw[h2];exact memP_pair _ _
 rw[hr]at hp
 have hmem:∀x∈r,x∈m:=fun x hx=>by rw[hr];exact List.mem_append_right _ hx
 refine⟨(List.pairwise_append.1 hp).2.1,fun x hx=>?_,fun x hx=>?_⟩
 ·have:=hmem x hx
  rw[h2]at this
  exact zFs this
 ·have h3:=hmem x hx
  rw[h2]at h3
  obtain⟨i,h4,rfl,h5⟩:=zDu.1 h3
  have h6:=(zDX _).1 h1 i h4
  have h7:=hg _ hx
  unfold canB at h6
  rw[if_neg (by omega),h5]at h6
  simpa using h6
theorem zFU{d m:List Int}(hd:DOk b d)(h:lgt b d=some m):∃r,cueO b d=some r∧m=zAH d++r∧(∀x∈r,(d.length:Int)≤x)∧Cho b r:=by
 have hm:=(zFP h).1.1
 obtain⟨r,h1,h2⟩:=chs_left hd hm
 refine⟨r,?_,h1,h2,chs_cho2 hm h1 h2⟩
 unfold cueO
 rw[h,h1]
 show some ((zAH d++r).drop (zAH d).length)=_
 rw[List.drop_left]
theorem left_snoc(d:List Int)(x:Int):zAH (d++[x])=zAH d++if x= -1 then [(d.length:Int)]else []:=by
 unfold zAH
 rw[List.length_append,List.length_singleton]
 show memP (zBL (d++[x])) d.length++_=_
 rw[zBm (Q:=zBL d) fun i hi=>by unfold zBL;rw[app_at hi]]
 congr 1
 have e:zBL (d++[x]) d.length=decide (x= -1):=by unfold zBL;simp
 rw[e]
 simp only[decide_eq_true_eq]
theorem done_snoc{d:List Int}{x:Int}(h:wZ b d=true)(hl:d.length<b.scenes.length)(hx:dnB b d.length x=true):wZ b (d++[x])=true:=by
 unfold wZ at h ⊢
 rw[Bool.and_eq_true]at h ⊢
 refine⟨kH (by simp;omega),(dnF_at _ 0).2 fun j y hy=>?_⟩
 rw[Nat.zero_add]
 by_cases hj:j<d.length
 ·rw[app_at hj]at hy
  have:=(dnF_at _ 0).1 h.2 j y hy
  rw[Nat.zero_add]at this;exact this
 ·have hl2:=(List.getElem?_eq_some_iff.1 hy).1
  rw[List.length_append,List.length_singleton]at hl2
  obtain rfl:j=d.length:=by omega
  have e:(d++[x])[d.length]? =some x:=by simp
  rw[e]at hy;cases hy;exact hx
theorem wt_one(i:Nat):wt b [(i:Int)]=wtA b i:=by
 unfold wt
 show wtA b i+0=_
 omega
theorem cue_next{d m r:List Int}{x:Int}{q:Sc}(hb:BOk b)(hd:wZ b d=true)(ho:lgt b d=some m)(hmr:m=zAH d++r)(hrg:∀y∈r,(d.length:Int)≤y)(hq:b.scenes[d.length]? =some q)(h1:(d.length:Int)∈r→x= -1)(h2:(d.length:Int) ∉ r→q.lo≤x∧x≤q.hi):
  ∃r2,wZ b (d++[x])=true∧(lgt b (d++[x])).isSome=true∧cueO b (d++[x])=some r2∧Cho b r2∧(if(d.length:Int)∈r then wtA b d.length else 0)+wt b r2≤wt b r∧(∃m2,lgt b (d++[x])=some m2∧wt b m2≤wt b m):=by
 have hl:=(List.getElem?_eq_some_iff.1 hq).1
 have hs:=hb.sc _ q hq
 obtain⟨⟨hm,hf⟩,_⟩:=zFP ho
 have hmem:(d.length:Int)∈m↔(d.length:Int)∈r:=by
  rw[hmr,List.mem_append]
  constructor
  ·rintro(h|h)
   ·unfold zAH at h
    have:=zFs h
    omega
   ·exact h
  ·exact .inr
 obtain⟨h3,h4⟩:=cue_step (x:=x) hm hf hq (fun h=>h1 (hmem.1 h)) (fun h=>by have:=h2 (fun h3=>h (hmem.2 h3));omega)
 obtain⟨m2,h5,h6⟩:=lgt_le h3 h4
 have hdn:dnB b d.length x=true:=by
  unfold dnB
  by_cases hr:(d.length:Int)∈r
  ·have hc:=chs_cho2 hm hmr hrg
   have:=hc.mu _ hr
   rw[Int.toNat_natCast]at this
   rw[h1 hr,this];rfl
  ·rw[hq]
   show(_||inS q.lo q.hi x)=true
   rw[zAP.2 (h2 hr),Bool.or_true]
 have hd2:=done_snoc hd hl hdn
 obtain⟨r2,h7,h8,_,h10⟩:=zFU (zDe hb hd2) h5
 refine⟨r2,hd2,by rw[h5];rfl,h7,h10,?_,m2,h5,h6⟩
 rw[h8,hmr,left_snoc,wt_app,wt_app,wt_app]at h6
 by_cases hr:(d.length:Int)∈r
 ·rw[if_pos (h1 hr),wt_one]at h6
  rw[if_pos hr];omega
 ·rw[if_neg (by have:=h2 hr;omega)]at h6
  rw[if_neg hr]
  have:wt b []=0:=rfl
  omega
end
section
variable {is:FuncId→Bool}{orc:Known}
noncomputable def b65:Code:=(Tryd.f65.body).getD .skip
theorem body65:bodyOf Tryd.prog 65=some (7,b65,[.tmp 3]):=by kernel_rfl
theorem pure65:pureFn Tryd.prog 65=false:=by kernel_rfl
noncomputable def b67:Code:=(Tryd.f67.body).getD .skip
theorem body67:bodyOf Tryd.prog 67=some (36,b67,[.cell 4 72,.tmp 5]):=by kernel_rfl
theorem pure67:pureFn Tryd.prog 67=true:=by kernel_rfl
noncomputable def b27:Code:=(Tryd.f27.body).getD .skip
theorem body27:bodyOf Tryd.prog 27=some (31,b27,[.tmp 4,.tmp 5]):=by kernel_rfl
theorem pure27:pureFn Tryd.prog 27=true:=by kernel_rfl
def plF(b:Bk):Nat→List Int→Bool
 |_,[]=>true
 |i,x::l=>(match b.scenes[i]? with|none=>false|some q=>inS q.lo q.hi x)&&plF b (i+1) l
def zBw(b:Bk)(t:List Int):Bool:=decide (t.length=b.scenes.length)&&plF b 0 t
set_option maxHeartbeats 8000000 in
theorem ret66(hi:Off is){b:Bk}(h:BOk b)(t:List Int):RetP Tryd.prog is orc 66 [b.u,.lst .ro 1 (zE t)] (.bool (zBw b t)):=by
 refine zp body66 pure66 (hi 66 (by decide)) rfl rfl (zu (wU b 4) (zR 6 .ro (fun h=>by cases h) 1 t)) (.inl (.bool _ _)) ?_
 have hn:=h.sn
 unfold zBw
 by_cases hl:t.length=b.scenes.length
 ·rw[kH hl,Bool.true_and]
  generalize hz:plF b 0 t=z
  refine kQ (yB rfl rfl (zB rfl (zC ?_)))
  refine zF [(1,.lst .ro 1 (zE t)),(2,U.box 0 0)] ([SB.box (Bk.cs b)]) (.n2 rfl) rfl fun fr=>?_
  refine k_seq (kQ (zA rfl (zP rfl ty22 rfl (List.length_map _) ?_)))
  refine kA rfl wL (kA rfl ze (kC sh23 rfl (zP rfl ty23 rfl (List.length_map _) ?_)))
  refine ku rfl (zC (k_cF rfl (kI (by omega)) (zJ (k_seq (kQ (zA rfl (zP rfl ty22 rfl (List.length_map _) ?_)))))))
  refine zA rfl (zC (zH ?_))
  refine yR (fun kk s2=>∃i:Nat,kk+i=t.length∧z=plF b i (t.drop i)∧s2.st=[.box (Bk.cs b)]∧Holds s2 [(2,.box 0 0),(14,.lst .ro 1 (zE t)),(15,.int .i64 t.length),(16,.int .i64 i)]) (fun kk s2 hI=>?_) t.length _ ⟨0,rfl,hz.symm,rfl,.c4 rfl rfl rfl rfl (.nil rfl)⟩
  obtain⟨i,hk,hw,hst2,hs2⟩:=hI
  clear hz
  refine zF _ _ hs2 hst2 fun fr2=>?_
  by_cases hin:i<t.length
  ·obtain⟨x,hx⟩:∃x,t[i]? =some x:=⟨t[i],List.getElem?_eq_getElem hin⟩
   rw[zAr hx]at hw
   obtain⟨q,hq⟩:∃q,b.scenes[i]? =some q:=⟨b.scenes[i]'(by omega),List.getElem?_eq_getElem (by omega)⟩
   have hw:z=((match b.scenes[i]? with|none=>false|some q=>inS q.lo q.hi x)&&plF b (i+1) (t.drop (i+1))):=hw
   rw[hq]at hw
   have hw:z=(inS q.lo q.hi x&&plF b (i+1) (t.drop (i+1))):=hw
   have q84:=ret84 (orc:=orc) hi h hq x
   cases hs:inS q.lo q.hi x with
   |true=>
    rw[hs]at hw q84
    have hw:z=plF b (i+1) (t.drop (i+1)):=hw
    refine kQ (kq rfl (zC (k_seq (k_cT rfl (kH (by omega)) (zJ (k_seq (zH (kQ (zA rfl (zX (u:=.int .i64 (x)) rfl ty22 rfl rfl (Int.natCast_nonneg _) (by simp[hx]) cl3 ?_))))))))))
    refine kE sh3 rfl ?_
    refine zB rfl (zB rfl (zC (kQ (kD sh70 rfl (zA rfl (zA rfl (zG rfl (q84) (.lrefl _) (zh rfl rfl (zC ?_)))))))))
    refine zF [(2,U.box 0 0),(14,.lst .ro 1 (zE t)),(15,.int .i64 ↑(List.length t)),(16,.int .i64 ↑i),(25,U.bool !Bool.true)] ([SB.box (Bk.cs b)]) (.n5 rfl) rfl fun fr=>?_
    refine k_cF rfl rfl ?_
    refine zJ (k_region ?_)
    refine kB rfl (by unfold I64;omega) (zA rfl (zC ?_))
    exact⟨kk - 1,by omega,i+1,by omega,hw,rfl,.c4 rfl rfl rfl rfl (.nil rfl)⟩
   |false=>
    rw[hs]at hw q84
    obtain rfl:z=false:=hw
    refine kQ (kq rfl (zC (k_seq (k_cT rfl (kH (by omega)) (zJ (k_seq (zH (kQ (zA rfl (zX (u:=.int .i64 (x)) rfl ty22 rfl rfl (Int.natCast_nonneg _) (by simp[hx]) cl3 ?_))))))))))
    refine kE sh3 rfl ?_
    refine zB rfl (zB rfl (zC (kQ (kD sh70 rfl (zA rfl (zA rfl (zG rfl (q84) (.lrefl _) (zh rfl rfl (zC ?_)))))))))
    refine zF [(2,U.box 0 0),(14,.lst .ro 1 (zE t)),(15,.int .i64 ↑(List.length t)),(16,.int .i64 ↑i),(25,U.bool !Bool.false)] ([SB.box (Bk.cs b)]) (.n5 rfl) rfl fun fr=>?_
    refine k_cT rfl rfl ?_
    refine kQ (zB rfl (zC (zS ?_)))
    refine⟨.inr rfl,_,.cons _ _ _ _ (.tmp 4) .nil,?_⟩
    exact .refl _
  ·have hd:t.drop i=[]:=List.drop_eq_nil_of_le (by omega)
   rw[hd]at hw
   obtain rfl:z=true:=hw
   refine kQ (kq rfl (zC (k_seq (k_cF rfl (kI (by omega)) (zr (kQ (zB rfl (zC (zS ?_)))))))))
   refine⟨.inr rfl,_,.cons _ _ _ _ (.tmp 4) .nil,?_⟩
   exact .refl _
 ·rw[kI hl,Bool.false_and]
  refine kQ (yB rfl rfl (zB rfl (zC ?_)))
  refine zF [(1,.lst .ro 1 (zE t)),(2,U.box 0 0)] ([SB.box (Bk.cs b)]) (.n2 rfl) rfl fun fr=>?_
  refine k_seq (kQ (zA rfl (zP rfl ty22 rfl (List.length_map _) ?_)))
  refine kA rfl wL (kA rfl ze (kC sh23 rfl (zP rfl ty23 rfl (List.length_map _) ?_)))
  refine ku rfl (zC (k_cT rfl (kH (by omega)) (kQ (zB rfl (zC (zS ?_))))))
  refine⟨.inr rfl,_,.cons _ _ _ _ (.tmp 4) .nil,?_⟩
  exact .refl _
theorem plF_at{b:Bk}:∀(l:List Int) (i:Nat),plF b i l=true→∀(j:Nat) (x:Int),l[j]? =some x→∃q,b.scenes[i+j]? =some q∧q.lo≤x∧x≤q.hi:=by
 intro l
 induction l with
 |nil=>intro i _ j x h;simp at h
 |cons y l ih=>
  intro i h j x hx
  unfold plF at h
  rw[Bool.and_eq_true]at h
  cases j with
  |zero=>
   cases hx
   cases hq:b.scenes[i]? with
   |none=>rw[hq]at h;cases h.1
   |some q=>
    rw[hq]at h
    exact⟨q,rfl,zAP.1 h.1⟩
  |succ j=>
   have:=ih (i+1) h.2 j x (by simpa using hx)
   rw[show i+(j+1)=i+1+j by omega];exact this
theorem wpc65(hi:Off is){b:Bk}(h:BOk b){t:List Int}{st:List SB}{j:Nat}(hj:st[j]? =some (.box [.lst .ro 1 (zE t)])):WpC Tryd.prog is orc 65 [b.u,.box j 0] st fun u st'=>u=.bool (zBw b t)∧∃e,st'=st++e:=by
 refine zFX body65 pure65 rfl rfl ?_
 have q66:=ret66 (orc:=orc) hi h t
 generalize zBw b t=z at*
 refine kQ (yB rfl rfl (zB rfl (zC ?_)))
 refine zF [(1,U.box j 0),(2,U.box (List.length st) 0)] (st++[SB.box (Bk.cs b)]) (.n2 rfl) rfl fun fr=>?_
 refine kQ (yK rfl rfl (za _ _) sh70 rfl ?_)
 refine zQ rfl rfl (yL hj) sh22 rfl ?_
 refine zG rfl (q66) (.lrefl _) (zB rfl (zC (zS ?_)))
 refine⟨.inr rfl,_,.cons _ _ _ _ (.tmp 3) .nil,?_⟩
 exact⟨_,.refl _,rfl,_,rfl⟩
def zAw(b:Bk)(t:List Int):Nat→Option (List Int)
 |0=>some []
 |k+1=>match zAw b t k with
  |none=>none
  |some d=>match cueO b d with
   |none=>none
   |some r=>some (d++[if(k:Int)∈r then -1 else(t[k]?).getD 0])
theorem zGc{b:Bk}{t:List Int}{k:Nat}(h:zAw b t k=none):∀n,k≤n→zAw b t n=none:=by
 intro n hn
 obtain⟨j,rfl⟩:=Nat.exists_eq_add_of_le hn
 induction j with
 |zero=>exact h
 |succ j ih=>
  rw[←Nat.add_assoc]
  show(match zAw b t (k+j)with|none=>none|some d=>_)=none
  rw[ih (by omega)]
theorem cue_none{b:Bk}{d:List Int}:cueO b d=none↔lgt b d=none:=by
 unfold cueO
 cases lgt b d with
 |none=>exact⟨(fun _=>rfl),(fun _=>rfl)⟩
 |some m=>exact⟨(fun h=>by cases h),(fun h=>by cases h)⟩
abbrev crN(b:Bk):U:=.agg [.int .i64 b.bg,.lst .ro 1 (zE b.opens),.lst .ro 1 (zE b.ends),.lst .ro 5 (scsU b.scenes),.int .i64 b.fee,.lst .ro 1 (zE b.loads),.int .i64 b.cart,.int .i64 b.cost,.int .i64 b.feast,.lst .ro 1 (zE b.shares),.lst .full 0 []]
theorem dat_crN(b:Bk)(k:Nat):Dat (k+4) (crN b):=.agg _ _ fun c hc=>by
 rcases List.mem_append.1 (show c∈b.cs++[.lst .full 0 []]from hc)with hc|hc
 ·exact dat_bkcs b k c hc
 ·rcases List.mem_singleton.1 hc with rfl;exact zCs _
def plU(b:Bk)(o:Option (List Int)):U:=match o with|none=>.tup [zcrU,.bool false]|some D=>.tup [crU b D,.bool true]
theorem uw_cr{b:Bk}{d:List Int}{u:U}(hu:UW (.u u) (.u (.lst .ro 1 (zE d)))):UW (.l [.agg [.int .i64 b.bg,.lst .ro 1 (zE b.opens),.lst .ro 1 (zE b.ends),.lst .ro 5 (scsU b.scenes),.int .i64 b.fee,.lst .ro 1 (zE b.loads),.int .i64 b.cart,.int .i64 b.cost,.int .i64 b.feast,.lst .ro 1 (zE b.shares),u]]) (.l [crU b d]):=.lcons _ _ _ _ (.agg _ _ (.lcons _ _ _ _ (.refl _) (.lcons _ _ _ _ (.refl _) (.lcons _ _ _ _ (.refl _) (.lcons _ _ _ _ (.refl _) (.lcons _ _ _ _ (.refl _) (.lcons _ _ _ _ (.refl _) (.lcons _ _ _ _ (.refl _) (.lcons _ _ _ _ (.refl _) (.lcons _ _ _ _ (.refl _) (.lcons _ _ _ _ (.refl _) (.lcons _ _ _ _ hu (.lrefl _))))))))))))) (.lrefl _)
theorem uw_cr1{b:Bk}{d:List Int}{u:U}(hu:UW (.u u) (.u (.lst .ro 1 (zE d)))):UW (.u (.agg [.int .i64 b.bg,.lst .ro 1 (zE b.opens),.lst .ro 1 (zE b.ends),.lst .ro 5 (scsU b.scenes),.int .i64 b.fee,.lst .ro 1 (zE b.loads),.int .i64 b.cart,.int .i64 b.cost,.int .i64 b.feast,.lst .ro 1 (zE b.shares),u])) (.u (crU b d)):=.agg _ _ (.lcons _ _ _ _ (.refl _) (.lcons _ _ _ _ (.refl _) (.lcons _ _ _ _ (.refl _) (.lcons _ _ _ _ (.refl _) (.lcons _ _ _ _ (.refl _) (.lcons _ _ _ _ (.refl _) (.lcons _ _ _ _ (.refl _) (.lcons _ _ _ _ (.refl _) (.lcons _ _ _ _ (.refl _) (.lcons _ _ _ _ (.refl _) (.lcons _ _ _ _ hu (.lrefl _))))))))))))
set_option maxHeartbeats 16000000 in
theorem ret67(hi:Off is){b:Bk}(h:BOk b){t:List Int}(ht:t.length=b.scenes.length)(htr:∀x∈t, -1≤x∧x≤600):RetP Tryd.prog is orc 67 [crN b,.lst .ro 1 (zE t)] (plU b (zAw b t b.scenes.length)):=by
 have hn:=h.sn
 refine zp body67 pure67 (hi 67 (by decide)) rfl rfl (zu (dat_crN b 4) (zR 6 .ro (fun h=>by cases h) 1 t)) (by
  cases zAw b t b.scenes.length with
  |none=>exact .inr ⟨_,rfl,zu (k:=7) (dat_zcr 3) (.bool _ _)⟩
  |some D=>exact .inr ⟨_,rfl,zu (k:=7) (zBp b D 3) (.bool _ _)⟩) ?_
 refine kQ (yB rfl rfl (zq rfl ze72 ?_))
 refine zB rfl (zC ?_)
 refine zF [(1,.lst .ro 1 (zE t)),(2,U.box 0 0),(4,U.box 1 0)] ([SB.box [.int .i64 (Bk.bg b),.lst .ro 1 (zE (Bk.opens b)),.lst .ro 1 (zE (Bk.ends b)),.lst .ro 5 (scsU (Bk.scenes b)),.int .i64 (Bk.fee b),.lst .ro 1 (zE (Bk.loads b)),.int .i64 (Bk.cart b),.int .i64 (Bk.cost b),.int .i64 (Bk.feast b),.lst .ro 1 (zE (Bk.shares b)),.lst .full 0 []],SB.box [.int .i64 0,.lst .full 0 [],.lst .full 0 [],.lst .full 0 [],.int .i64 0,.lst .full 0 [],.int .i64 0,.int .i64 0,.int .i64 0,.lst .full 0 [],.lst .full 0 []]]) (.n3 rfl) rfl fun fr=>?_
 refine k_seq (kQ (zA rfl (zP rfl ty22 rfl (List.length_map _) ?_)))
 refine zA rfl (zC (zH ?_))
 refine yR (fun kk s2=>∃(i:Nat) (D:List Int),kk+i=t.length∧zAw b t i=some D∧D.length=i∧DOk b D∧s2.st=[.box [.int .i64 b.bg,.lst .ro 1 (zE b.opens),.lst .ro 1 (zE b.ends),.lst .ro 5 (scsU b.scenes),.int .i64 b.fee,.lst .ro 1 (zE b.loads),.int .i64 b.cart,.int .i64 b.cost,.int .i64 b.feast,.lst .ro 1 (zE b.shares),accI D],.box [.int .i64 0,.lst .full 0 [],.lst .full 0 [],.lst .full 0 [],.int .i64 0,.lst .full 0 [],.int .i64 0,.int .i64 0,.int .i64 0,.lst .full 0 [],.lst .full 0 []]]∧Holds s2 [(2,.box 0 0),(4,.box 1 0),(10,.lst .ro 1 (zE t)),(11,.int .i64 t.length),(12,.int .i64 i)]) (fun kk s2 hI=>?_) t.length _ ⟨0,[],rfl,rfl,rfl,dok_nil b,rfl,.c4 rfl rfl rfl rfl (.n1 rfl)⟩
 obtain⟨i,D,hk,hpD,hDl,hdk,hst2,hs2⟩:=hI
 by_cases hin:i<t.length
 ·obtain⟨x,hx⟩:∃x,t[i]? =some x:=⟨t[i],List.getElem?_eq_getElem hin⟩
  have hxr:=htr x (List.mem_of_getElem? hx)
  have q63:=ret63 (orc:=orc) hi h hdk
  have hsu:zAw b t (i+1)=match cueO b D with|none=>none|some r=>some (D++[if(i:Int)∈r then -1 else(t[i]?).getD 0]):=by
   show(match zAw b t i with|none=>none|some d=>_)=_
   rw[hpD]
  rw[hx]at hsu
  cases hc:cueO b D with
  |none=>
   rw[cue_none.1 hc,hc]at q63
   rw[hc]at hsu
   have hN:=zGc hsu b.scenes.length (by omega)
   rw[hN]
   refine zF _ _ hs2 hst2 fun fr2=>?_
   refine kQ (kq rfl (zC (k_seq (k_cT rfl (kH (by omega)) (zJ (k_seq (zH (kQ (zA rfl (zX (u:=.int .i64 (x)) rfl ty22 rfl rfl (Int.natCast_nonneg _) (by simp[hx]) cl3 ?_))))))))))
   refine kE sh3 rfl ?_
   refine zB rfl (zB rfl (zC (kQ (kD sh72 rfl (zG rfl (q63) (uw_cr (zDQ D)) ?_)))))
   refine zA rfl (kz rfl (kz rfl (zB rfl (zB rfl (zC ?_)))))
   refine zF [(2,U.box 0 0),(4,U.box 1 0),(6,.int .i64 ↑i),(7,.int .i64 x),(8,.lst .full 0 []),(9,U.bool (Option.isSome Option.none)),(10,.lst .ro 1 (zE t)),(11,.int .i64 ↑(List.length t)),(12,.int .i64 ↑i)] ([SB.box [.int .i64 (Bk.bg b),.lst .ro 1 (zE (Bk.opens b)),.lst .ro 1 (zE (Bk.ends b)),.lst .ro 5 (scsU (Bk.scenes b)),.int .i64 (Bk.fee b),.lst .ro 1 (zE (Bk.loads b)),.int .i64 (Bk.cart b),.int .i64 (Bk.cost b),.int .i64 (Bk.feast b),.lst .ro 1 (zE (Bk.shares b)),accI D],SB.box [.int .i64 0,.lst .full 0 [],.lst .full 0 [],.lst .full 0 [],.int .i64 0,.lst .full 0 [],.int .i64 0,.int .i64 0,.int .i64 0,.lst .full 0 [],.lst .full 0 []]]) (.n9 rfl) rfl fun fr=>?_
   refine k_seq (kQ (zA rfl (zh rfl rfl (zC (k_cT rfl rfl ?_)))))
   refine kQ (wk rfl ze72 pl72 rfl rfl ?_)
   refine zZ rfl rfl sh72 rfl rfl rfl rfl rfl ?_
   refine zB rfl (zC (zS ?_))
   refine⟨.inr rfl,_,.cons _ _ _ _ (.cellN 4 72 _ _ _ _ rfl rfl sh72 rfl) (.cons _ _ _ _ (.tmp 5) .nil),?_⟩
   exact .refl _
   done
  |some r=>
   obtain⟨m,hm⟩:∃m,lgt b D=some m:=by
    cases ho:lgt b D with
    |none=>rw[cue_none.2 ho]at hc;cases hc
    |some m=>exact⟨m,rfl⟩
   obtain⟨r2,hc2,hmr,hrg,hcho⟩:=zFU hdk hm
   rw[hc]at hc2
   cases hc2
   have hrl:=hcho.len
   rw[hm,hc]at q63
   have q63:RetP Tryd.prog is orc 63 [crU b D] (.tup [.lst .ro 1 (zE r),.bool true]):=q63
   have q87:=ret87 (orc:=orc) hi r i (by omega)
   rw[hc]at hsu
   have hsu:zAw b t (i+1)=some (D++[if(i:Int)∈r then -1 else x]):=hsu
   obtain⟨y,hy⟩:∃y,y=if(i:Int)∈r then -1 else x:=⟨_,rfl⟩
   have hyr: -1≤y∧y≤600:=by rw[hy];split<;>omega
   have hdk2:DOk b (D++[y]):=⟨by simp;omega,fun z hz=>by
    rcases List.mem_append.1 hz with hz|hz
    ·exact hdk.rg z hz
    ·rcases List.mem_singleton.1 hz with rfl;exact hyr⟩
   by_cases hir:(i:Int)∈r
   ·rw[kH hir]at q87
    rw[if_pos hir]at hsu hy
    rw[hy]at hdk2
    cases D with
    |nil=>
     refine zF _ _ hs2 hst2 fun fr2=>?_
     refine kQ (kq rfl (zC (k_seq (k_cT rfl (kH (by omega)) (zJ (k_seq (zH (kQ (zA rfl (zX (u:=.int .i64 (x)) rfl ty22 rfl rfl (Int.natCast_nonneg _) (by simp[hx]) cl3 ?_))))))))))
     refine kE sh3 rfl ?_
     refine zB rfl (zB rfl (zC (kQ (kD sh72 rfl (zG rfl (q63) (uw_cr (zDQ [])) ?_)))))
     refine zA rfl (kz rfl (kz rfl (zB rfl (zB rfl (zC ?_)))))
     refine zF [(2,U.box 0 0),(4,U.box 1 0),(6,.int .i64 ↑i),(7,.int .i64 x),(8,.lst .ro 1 (zE r)),(9,.bool true),(10,.lst .ro 1 (zE t)),(11,.int .i64 ↑(List.length t)),(12,.int .i64 ↑i)] ([SB.box [.int .i64 (Bk.bg b),.lst .ro 1 (zE (Bk.opens b)),.lst .ro 1 (zE (Bk.ends b)),.lst .ro 5 (scsU (Bk.scenes b)),.int .i64 (Bk.fee b),.lst .ro 1 (zE (Bk.loads b)),.int .i64 (Bk.cart b),.int .i64 (Bk.cost b),.int .i64 (Bk.feast b),.lst .ro 1 (zE (Bk.shares b)),accI []],SB.box [.int .i64 0,.lst .full 0 [],.lst .full 0 [],.lst .full 0 [],.int .i64 0,.lst .full 0 [],.int .i64 0,.int .i64 0,.int .i64 0,.lst .full 0 [],.lst .full 0 []]]) (.n9 rfl) rfl fun fr=>?_
     refine k_seq (kQ (zA rfl (zh rfl rfl (zC (k_cF rfl rfl ?_)))))
     refine zJ (k_seq (kQ (zA rfl (zA rfl (zG rfl (q87) (.lrefl _) (zC (k_cT rfl rfl ?_)))))))
     refine k_region (zB rfl (zC (k_region (kA rfl wK (kC sh22 rfl (zA rfl (wW (es:=[.int .i64 (-1:Int)]) rfl ty22 ze3 cl3 rfl rfl rfl rfl rfl rfl rfl rfl ?_)))))))
     refine wC rfl wF rfl rfl (by simp) (by simp) (by simp[yF,zg,oneU]) (by simp) ?_
     refine kA rfl wK (yz rfl rfl sh22 rfl rfl (zC ?_))
     refine zF [(2,U.box 0 0),(4,U.box 1 0),(10,.lst .ro 1 (zE t)),(11,.int .i64 ↑(List.length t)),(12,.int .i64 ↑i)] ([SB.box [.int .i64 (Bk.bg b),.lst .ro 1 (zE (Bk.opens b)),.lst .ro 1 (zE (Bk.ends b)),.lst .ro 5 (scsU (Bk.scenes b)),.int .i64 (Bk.fee b),.lst .ro 1 (zE (Bk.loads b)),.int .i64 (Bk.cart b),.int .i64 (Bk.cost b),.int .i64 (Bk.feast b),.lst .ro 1 (zE (Bk.shares b)),U.lst Kd.own 1 [.int .i64 (-1:Int)]],SB.box [.int .i64 0,.lst .full 0 [],.lst .full 0 [],.lst .full 0 [],.int .i64 0,.lst .full 0 [],.int .i64 0,.int .i64 0,.int .i64 0,.lst .full 0 [],.lst .full 0 []]]) (.n5 rfl) rfl fun fr=>?_
     refine k_region ?_
     refine kB rfl (by unfold I64;omega) (zA rfl (zC ?_))
     exact⟨kk - 1,by omega,i+1,_,by omega,hsu,by simp at hDl ⊢;omega,hdk2,rfl,.c4 rfl rfl rfl rfl (.n1 rfl)⟩
    |cons z D=>
     refine zF _ _ hs2 hst2 fun fr2=>?_
     refine kQ (kq rfl (zC (k_seq (k_cT rfl (kH (by omega)) (zJ (k_seq (zH (kQ (zA rfl (zX (u:=.int .i64 (x)) rfl ty22 rfl rfl (Int.natCast_nonneg _) (by simp[hx]) cl3 ?_))))))))))
     refine kE sh3 rfl ?_
     refine zB rfl (zB rfl (zC (kQ (kD sh72 rfl (zG rfl (q63) (uw_cr (zDQ (z::D))) ?_)))))
     refine zA rfl (kz rfl (kz rfl (zB rfl (zB rfl (zC (k_seq (kQ (zA rfl (zh rfl rfl (zC (k_cF rfl rfl ?_)))))))))))
     refine zJ (k_seq (kQ (zA rfl (zA rfl (zG rfl (q87) (.lrefl _) (zC (k_cT rfl rfl ?_)))))))
     refine k_region (zB rfl (zC (k_region (kA rfl wK (kC sh22 rfl (zA rfl (wW (es:=[.int .i64 (-1:Int)]) rfl ty22 ze3 cl3 rfl rfl rfl rfl rfl rfl rfl rfl ?_)))))))
     refine o_appendC (0) 10 rfl wF rfl rfl rfl rfl (by simp) (by simp) (by simp[yF,zg,oneU]) (by simp at hDl ⊢;omega) ?_
     refine kA rfl wK (yz rfl rfl sh22 rfl rfl (zC (k_region ?_)))
     refine kB rfl (by unfold I64;omega) (zA rfl (zC ?_))
     exact⟨kk - 1,by omega,i+1,_,by omega,hsu,by simp at hDl ⊢;omega,hdk2,(by rw[wO];rfl),.c4 rfl rfl rfl rfl (.n1 rfl)⟩
   ·rw[kI hir]at q87
    rw[if_neg hir]at hsu hy
    rw[hy]at hdk2
    cases D with
    |nil=>
     refine zF _ _ hs2 hst2 fun fr2=>?_
     refine kQ (kq rfl (zC (k_seq (k_cT rfl (kH (by omega)) (zJ (k_seq (zH (kQ (zA rfl (zX (u:=.int .i64 (x)) rfl ty22 rfl rfl (Int.natCast_nonneg _) (by simp[hx]) cl3 ?_))))))))))
     refine kE sh3 rfl ?_
     refine zB rfl (zB rfl (zC (kQ (kD sh72 rfl (zG rfl (q63) (uw_cr (zDQ [])) ?_)))))
     refine zA rfl (kz rfl (kz rfl (zB rfl (zB rfl (zC ?_)))))
     refine zF [(2,U.box 0 0),(4,U.box 1 0),(6,.int .i64 ↑i),(7,.int .i64 x),(8,.lst .ro 1 (zE r)),(9,.bool true),(10,.lst .ro 1 (zE t)),(11,.int .i64 ↑(List.length t)),(12,.int .i64 ↑i)] ([SB.box [.int .i64 (Bk.bg b),.lst .ro 1 (zE (Bk.opens b)),.lst .ro 1 (zE (Bk.ends b)),.lst .ro 5 (scsU (Bk.scenes b)),.int .i64 (Bk.fee b),.lst .ro 1 (zE (Bk.loads b)),.int .i64 (Bk.cart b),.int .i64 (Bk.cost b),.int .i64 (Bk.feast b),.lst .ro 1 (zE (Bk.shares b)),accI []],SB.box [.int .i64 0,.lst .full 0 [],.lst .full 0 [],.lst .full 0 [],.int .i64 0,.lst .full 0 [],.int .i64 0,.int .i64 0,.int .i64 0,.lst .full 0 [],.lst .full 0 []]]) (.n9 rfl) rfl fun fr=>?_
     refine k_seq (kQ (zA rfl (zh rfl rfl (zC (k_cF rfl rfl ?_)))))
     refine zJ (k_seq (kQ (zA rfl (zA rfl (zG rfl (q87) (.lrefl _) (zC (k_cF rfl rfl ?_)))))))
     refine zJ (k_region (kA rfl wK (kC sh22 rfl (zA rfl (wW (es:=[.int .i64 x]) rfl ty22 ze3 cl3 rfl rfl rfl rfl rfl rfl rfl rfl ?_)))))
     refine wC rfl wF rfl rfl (by simp) (by simp) (by simp[yF,zg,oneU]) (by simp) ?_
     refine kA rfl wK (yz rfl rfl sh22 rfl rfl (zC ?_))
     refine zF [(2,U.box 0 0),(4,U.box 1 0),(10,.lst .ro 1 (zE t)),(11,.int .i64 ↑(List.length t)),(12,.int .i64 ↑i)] ([SB.box [.int .i64 (Bk.bg b),.lst .ro 1 (zE (Bk.opens b)),.lst .ro 1 (zE (Bk.ends b)),.lst .ro 5 (scsU (Bk.scenes b)),.int .i64 (Bk.fee b),.lst .ro 1 (zE (Bk.loads b)),.int .i64 (Bk.cart b),.int .i64 (Bk.cost b),.int .i64 (Bk.feast b),.lst .ro 1 (zE (Bk.shares b)),U.lst Kd.own 1 [.int .i64 x]],SB.box [.int .i64 0,.lst .full 0 [],.lst .full 0 [],.lst .full 0 [],.int .i64 0,.lst .full 0 [],.int .i64 0,.int .i64 0,.int .i64 0,.lst .full 0 [],.lst .full 0 []]]) (.n5 rfl) rfl fun fr=>?_
     refine k_region ?_
     refine kB rfl (by unfold I64;omega) (zA rfl (zC ?_))
     exact⟨kk - 1,by omega,i+1,_,by omega,hsu,by simp at hDl ⊢;omega,hdk2,rfl,.c4 rfl rfl rfl rfl (.n1 rfl)⟩
    |cons z D=>
     refine zF _ _ hs2 hst2 fun fr2=>?_
     refine kQ (kq rfl (zC (k_seq (k_cT rfl (kH (by omega)) (zJ (k_seq (zH (kQ (zA rfl (zX (u:=.int .i64 (x)) rfl ty22 rfl rfl (Int.natCast_nonneg _) (by simp[hx]) cl3 ?_))))))))))
     refine kE sh3 rfl ?_
     refine zB rfl (zB rfl (zC (kQ (kD sh72 rfl (zG rfl (q63) (uw_cr (zDQ (z::D))) ?_)))))
     refine zA rfl (kz rfl (kz rfl (zB rfl (zB rfl (zC (k_seq (kQ (zA rfl (zh rfl rfl (zC (k_cF rfl rfl ?_)))))))))))
     refine zJ (k_seq (kQ (zA rfl (zA rfl (zG rfl (q87) (.lrefl _) (zC (k_cF rfl rfl ?_)))))))
     refine zJ (k_region (kA rfl wK (kC sh22 rfl (zA rfl (wW (es:=[.int .i64 x]) rfl ty22 ze3 cl3 rfl rfl rfl rfl rfl rfl rfl rfl ?_)))))
     refine o_appendC (0) 10 rfl wF rfl rfl rfl rfl (by simp) (by simp) (by simp[yF,zg,oneU]) (by simp at hDl ⊢;omega) ?_
     refine kA rfl wK (yz rfl rfl sh22 rfl rfl (zC (k_region ?_)))
     refine kB rfl (by unfold I64;omega) (zA rfl (zC ?_))
     exact⟨kk - 1,by omega,i+1,_,by omega,hsu,by simp at hDl ⊢;omega,hdk2,(by rw[wO];rfl),.c4 rfl rfl rfl rfl (.n1 rfl)⟩
 ·have hie:i=b.scenes.length:=by omega
  subst hie
  rw[hpD]
  refine zF _ _ hs2 hst2 fun fr2=>?_
  refine kQ (kq rfl (zC (k_seq (k_cF rfl (kI (by omega)) (zr (kQ (kD sh72 rfl ?_)))))))
  refine o_weak 35 rfl (fun _=>rfl) (u:=crU b D) (by first|exact uw_cr1 (zDQ D)|exact uw_cr1 (uw_accI D)) ?_
  refine zZ rfl rfl sh72 rfl rfl rfl rfl rfl ?_
  refine zB rfl (zC (zS ?_))
  refine⟨.inr rfl,_,.cons _ _ _ _ (.cellN 4 72 _ _ _ _ rfl rfl sh72 rfl) (.cons _ _ _ _ (.tmp 5) .nil),?_⟩
  exact .refl _
  done
end
end Go.Proofs.YtlknfhjfkcboiaaDoor.night
