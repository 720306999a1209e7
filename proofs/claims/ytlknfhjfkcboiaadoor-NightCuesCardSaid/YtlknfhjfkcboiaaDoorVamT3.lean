import Derived.Test.YtlknfhjfkcboiaaDoorVamT2
set_option linter.unusedVariables false
set_option linter.unusedSimpArgs false
set_option linter.constructorNameAsVariable false
namespace Go.Proofs.YtlknfhjfkcboiaaDoor.night
open Vam
section
variable {is:FuncId→Bool}{orc:Known}
structure BOk(b:Bk):Prop where
 op:b.opens.length=3
 en:b.ends.length=3
 sn:1≤b.scenes.length∧b.scenes.length≤10
 ln:b.loads.length≤8
 pn:1≤b.shares.length∧b.shares.length≤12
 bg:0≤b.bg∧b.bg≤4000
 ops:∀x∈b.opens,0≤x∧x≤2000
 ens:∀x∈b.ends,0≤x∧x≤2000
 sc:∀(i:Nat) (q:Sc),b.scenes[i]? =some q→(prA b.scenes i≤q.part∧q.part≤2)∧(0≤q.wt∧q.wt≤100)∧0≤q.lo∧q.lo≤q.hi∧q.hi≤600
 fe:0≤b.fee∧b.fee≤100000
 co:0≤b.cost∧b.cost≤100000
 fs:0≤b.feast∧b.feast≤100000
 lo:∀x∈b.loads,1≤x∧x≤500
 ca:1≤b.cart∧b.cart≤500
 sh:∀x∈b.shares,1≤x∧x≤100
structure VOk(b:Bk):Prop extends BOk b where
 bg2:b.bg≤2000
theorem zAP{a b n:Int}:inS a b n=true↔a≤n∧n≤b:=by
 unfold inS
 rw[Bool.and_eq_true,decide_eq_true_eq,decide_eq_true_eq]
theorem sc_iff{p:Int}{q:Sc}:scB p q=true↔(p≤q.part∧q.part≤2)∧(0≤q.wt∧q.wt≤100)∧0≤q.lo∧q.lo≤q.hi∧q.hi≤600:=by
 unfold scB
 simp only[List.all_cons,List.all_nil,Bool.and_true,Bool.and_eq_true,decide_eq_true_eq,zAP]
 omega
theorem scs_iff{l:List Sc}:scsB 0 l=true↔ ∀(i:Nat) (q:Sc),l[i]? =some q→(prA l i≤q.part∧q.part≤2)∧(0≤q.wt∧q.wt≤100)∧0≤q.lo∧q.lo≤q.hi∧q.hi≤600:=by
 rw[scs_at]
 refine forall_congr' fun i=>forall_congr' fun q=>forall_congr' fun _=>?_
 rw[←sc_iff (p:=prA l i)]
 cases i with
 |zero=>exact Iff.rfl
 |succ i=>rw[if_neg (by omega)]
theorem zCY(b:Bk):zAs b=true↔VOk b:=by
 unfold zAs vlA vlB
 rw[Bool.and_eq_true,Bool.and_eq_true,Bool.and_eq_true,Bool.and_eq_true,Bool.and_eq_true,Bool.and_eq_true,Bool.and_eq_true,Bool.and_eq_true,Bool.and_eq_true,Bool.and_eq_true,Bool.and_eq_true,Bool.and_eq_true,scs_iff]
 simp only[decide_eq_true_eq,List.all_eq_true,zAP]
 constructor
 ·rintro⟨⟨h1,h2,h3,h4,h5⟩,h6,h7,h8,h9,h10,h11,h12,h13⟩
  exact⟨⟨h1,h2,by omega,by omega,by omega,⟨h6.1,by omega⟩,h7,h8,h9,h10 _ (by simp),h10 _ (by simp),h10 _ (by simp),h11,h12,h13⟩,h6.2⟩
 ·intro h
  refine⟨⟨h.op,h.en,by have:=h.sn;omega,by have:=h.ln;omega,by have:=h.pn;omega⟩,⟨h.bg.1,h.bg2⟩,h.ops,h.ens,h.sc,fun x hx=>?_,h.lo,h.ca,h.sh⟩
  simp only[List.mem_cons,List.not_mem_nil,or_false]at hx
  rcases hx with rfl|rfl|rfl
  ·exact h.fe
  ·exact h.co
  ·exact h.fs
theorem good_t{a b lo hi:Int}:goodB a b lo hi=true↔lo≤a∧a≤b∧b≤hi:=by
 unfold goodB
 simp only[Bool.and_eq_true,decide_eq_true_eq]
end
section
variable {is:FuncId→Bool}{orc:Known}
theorem by3:Program.bytesOf Tryd.prog 3=8:=by kernel_rfl
theorem zEY:zt Tryd.prog 50 3=some (4,4):=by kernel_rfl
theorem sh4:shOf Tryd.prog 4=.one:=by kernel_rfl
theorem wF:AppT Tryd.prog 22 22 3 1 8 ((.cons (.int .i64 0) .nil):V):=⟨ty22,⟨_,ty22⟩,cl3,by decide,by3,ze3,rfl⟩
noncomputable def b43:Code:=(Tryd.f43.body).getD .skip
theorem body43:bodyOf Tryd.prog 43=some (31,b43,[.tmp 4]):=by kernel_rfl
theorem pure43:pureFn Tryd.prog 43=true:=by kernel_rfl
noncomputable def b39:Code:=(Tryd.f39.body).getD .skip
theorem body39:bodyOf Tryd.prog 39=some (19,b39,[.tmp 4]):=by kernel_rfl
theorem pure39:pureFn Tryd.prog 39=true:=by kernel_rfl
def accI(l:List Int):U:=match l with
 |[]=>.lst .full 0 []
 |l=>.lst .own 1 (zE l)
theorem wO(x:Int)(l:List Int):accI (l++[x])=.lst .own 1 (zE l++[.int .i64 x]):=by
 cases l with
 |nil=>rfl
 |cons y l=>show U.lst .own 1 (zE ((y::l)++[x]))=_;simp[zE]
theorem uw_accI(l:List Int):UW (.u (dg (accI l))) (.u (.lst .ro 1 (zE l))):=by
 cases l with
 |nil=>exact .nil _ _ _
 |cons y l=>exact .ro _ _ _
def zAT(b:Bk)(i:Nat):Bool:=((b.scenes[i]?).map Sc.must).getD true
theorem zBH(P:Nat→Bool)(n:Nat):memP P (n+1)=memP P n++if P n=true then [(n:Int)]else []:=rfl
end
section
variable {is:FuncId→Bool}{orc:Known}
noncomputable def b93:Code:=(Tryd.f93.body).getD .skip
theorem body93:bodyOf Tryd.prog 93=some (17,b93,[.tmp 2]):=by kernel_rfl
theorem pure93:pureFn Tryd.prog 93=true:=by kernel_rfl
theorem wL:zt Tryd.prog 70 0=some (0,25):=by kernel_rfl
theorem ty83:tyOf Tryd.prog 83=.slice 3:=by kernel_rfl
noncomputable def b72:Code:=(Tryd.f72.body).getD .skip
theorem body72:bodyOf Tryd.prog 72=some (27,b72,[.tmp 4]):=by kernel_rfl
theorem pure72:pureFn Tryd.prog 72=true:=by kernel_rfl
def sumI:List Int→Int
 |[]=>0
 |x::l=>x+sumI l
theorem zEJ:∀(l m:List Int),sumI (l++m)=sumI l+sumI m:=by
 intro l m
 induction l with
 |nil=>simp[sumI]
 |cons x l ih=>show x+sumI (l++m)=x+sumI l+sumI m;rw[ih];omega
theorem sum_take{l:List Int}{i:Nat}{x:Int}(h:l[i]? =some x):sumI (l.take (i+1))=sumI (l.take i)+x:=by
 rw[List.take_add_one,h,zEJ]
 show _+(x+0)=_
 omega
theorem sum_b{l:List Int}{B:Int}(hB:0≤B)(h:∀x∈l, -B≤x∧x≤B): -(B*l.length)≤sumI l∧sumI l≤B*l.length:=by
 induction l with
 |nil=>simp[sumI]
 |cons x l ih=>
  have h1:=h x List.mem_cons_self
  have h2:=ih fun y hy=>h y (List.mem_cons_of_mem _ hy)
  have e:B*((x::l).length:Int)=B*l.length+B:=by rw[List.length_cons,Int.natCast_add,Int.mul_add];simp
  rw[e]
  show -(B*l.length+B)≤x+sumI l∧x+sumI l≤_
  omega
set_option maxHeartbeats 8000000 in
theorem ret93(hi:Off is){l:List Int}(hl:l.length≤4096)(hb:∀x∈l, -1000000≤x∧x≤1000000):RetP Tryd.prog is orc 93 [.lst .ro 1 (zE l)] (.int .i64 (sumI l)):=by
 refine zp body93 pure93 (hi 93 (by decide)) rfl rfl (zCT (zR 6 .ro (fun h=>by cases h) 1 l)) (.inl (.int _ _ _)) ?_
 refine kQ (zB rfl (zC (kQ (zB rfl (zC (k_seq (kQ (zA rfl (zP rfl ty22 rfl (List.length_map _) ?_)))))))))
 refine zA rfl (zC (zH ?_))
 refine yR (fun kk s2=>∃i:Nat,kk+i=l.length∧s2.st=[]∧Holds s2 [(3,.int .i64 (sumI (l.take i))),(6,.lst .ro 1 (zE l)),(7,.int .i64 l.length),(8,.int .i64 i)]) (fun kk s2 hI=>?_) l.length _ ⟨0,rfl,rfl,.c4 rfl rfl rfl rfl (.nil rfl)⟩
 obtain⟨i,hk,hst2,hs2⟩:=hI
 have hsb:=sum_b (l:=l.take i) (B:=1000000) (by omega) fun x hx=>hb x (List.mem_of_mem_take hx)
 rw[List.length_take]at hsb
 by_cases hin:i<l.length
 ·obtain⟨x,hx⟩:∃x,l[i]? =some x:=⟨l[i],List.getElem?_eq_getElem hin⟩
  have hsu:=sum_take hx
  have hxb:=hb x (List.mem_of_getElem? hx)
  generalize sumI (l.take i)=S at*
  refine zF _ _ hs2 hst2 fun fr2=>?_
  refine kQ (kq rfl (zC (k_seq (k_cT rfl (kH (by omega)) (zJ (k_seq (zH (kQ (zX (u:=.int .i64 (x)) rfl ty22 rfl rfl (Int.natCast_nonneg _) (by simp[hx]) cl3 ?_)))))))))
  refine kE sh3 rfl ?_
  refine zB rfl (zC (k_region (zA rfl (zA rfl ?_))))
  refine kB rfl (by unfold I64;omega) (zB rfl (zC (k_region ?_)))
  refine kB rfl (by unfold I64;omega) (zA rfl (zC ?_))
  exact⟨kk - 1,by omega,i+1,by omega,rfl,.cons (by rw[hsu];rfl) (.n3 rfl)⟩
 ·have hie:i=l.length:=by omega
  subst hie
  rw[List.take_length]at*
  refine zF _ _ hs2 hst2 fun fr2=>?_
  refine kQ (kq rfl (zC (k_seq (k_cF rfl (kI (by omega)) (zr (kQ (zA rfl (zB rfl (zC (zS ?_))))))))))
  refine⟨.inr rfl,_,.cons _ _ _ _ (.tmp 2) .nil,?_⟩
  exact .refl _
theorem memP_pair(P:Nat→Bool)(n:Nat):(memP P n).Pairwise (fun x y=>x<y):=by
 induction n with
 |zero=>exact List.Pairwise.nil
 |succ n ih=>
  unfold memP
  refine List.pairwise_append.2 ⟨ih,?_,fun x hx y hy=>?_⟩
  ·split
   ·exact List.pairwise_singleton _ _
   ·exact List.Pairwise.nil
  ·obtain⟨i,hi,rfl,_⟩:=zDu.1 hx
   split at hy
   ·rcases List.mem_singleton.1 hy with rfl;omega
   ·cases hy
theorem zFs{P:Nat→Bool}{n:Nat}{x:Int}(h:x∈memP P n):0≤x∧x<n:=by
 obtain⟨i,hi,rfl,_⟩:=zDu.1 h
 omega
def lstI(L:List Int):Nat→Int
 |0=> -1
 |i+1=>(L[i]?).getD 0
theorem lst_lt{L:List Int}(hp:L.Pairwise (fun x y=>x<y))(h0:∀x∈L,0≤x){i:Nat}{x:Int}(hx:L[i]? =some x):lstI L i<x:=by
 cases i with
 |zero=>have:=h0 x (List.mem_of_getElem? hx);show -1<x;omega
 |succ i=>
  obtain⟨h1,h2⟩:=List.getElem?_eq_some_iff.1 hx
  have:=List.pairwise_iff_getElem.1 hp i (i+1) (by omega) h1 (by omega)
  show(L[i]?).getD 0<x
  rw[List.getElem?_eq_getElem (by omega),←h2];exact this
structure Cho(b:Bk)(L:List Int):Prop where
 pw:L.Pairwise (fun x y=>x<y)
 rg:∀x∈L,0≤x∧x<b.scenes.length
 mu:∀x∈L,zAT b x.toNat=false
theorem cho_mem{b:Bk}{P:Nat→Bool}(h:∀i,i<b.scenes.length→P i=true→zAT b i=false):Cho b (memP P b.scenes.length):=by
 refine⟨memP_pair _ _,fun x hx=>zFs hx,fun x hx=>?_⟩
 obtain⟨i,h1,rfl,h2⟩:=zDu.1 hx
 exact h i h1 h2
theorem pw_len{L:List Int}{n:Nat}(hp:L.Pairwise (fun x y=>x<y))(hr:∀x∈L,0≤x∧x<n):L.length≤n:=by
 have key:∀(i:Nat) (x:Int),L[i]? =some x→(i:Int)≤x:=by
  intro i
  induction i with
  |zero=>intro x hx;exact(hr x (List.mem_of_getElem? hx)).1
  |succ i ih=>
   intro x hx
   have h1:=lst_lt hp (fun x h=>(hr x h).1) hx
   have hl:=(List.getElem?_eq_some_iff.1 hx).1
   have h2:L[i]? =some L[i]:=List.getElem?_eq_getElem (by omega)
   have h3:=ih _ h2
   have h4:lstI L (i+1)=L[i]:=by show(L[i]?).getD 0=_;rw[h2];rfl
   rw[h4]at h1
   omega
 cases h:L.length with
 |zero=>omega
 |succ k=>
  have h2:L[k]? =some (L[k]'(by omega)):=List.getElem?_eq_getElem (by omega)
  have h3:=key k _ h2
  have:=hr _ (List.mem_of_getElem? h2)
  omega
theorem Cho.len{b:Bk}{L:List Int}(h:Cho b L):L.length≤b.scenes.length:=pw_len h.pw h.rg
def wtA(b:Bk)(x:Int):Int:=((b.scenes[x.toNat]?).map Sc.wt).getD 0
def wt(b:Bk)(L:List Int):Int:=sumI (L.map (wtA b))
theorem wt_b{b:Bk}(h:BOk b)(x:Int):0≤wtA b x∧wtA b x≤100:=by
 unfold wtA
 cases hq:b.scenes[x.toNat]? with
 |none=>simp
 |some q=>exact(h.sc _ q hq).2.1
theorem wt_sb{b:Bk}(h:BOk b)(L:List Int): -(100*(L.length:Int))≤wt b L∧wt b L≤100*L.length:=by
 have:=sum_b (l:=L.map (wtA b)) (B:=100) (by omega) fun y hy=>by
  obtain⟨x,_,rfl⟩:=List.mem_map.1 hy
  have:=wt_b h x;omega
 rw[List.length_map]at this
 exact this
theorem wt_take{b:Bk}{L:List Int}{i:Nat}{x:Int}(h:L[i]? =some x):wt b (L.take (i+1))=wt b (L.take i)+wtA b x:=by
 unfold wt
 rw[List.map_take,List.map_take]
 exact sum_take (by rw[List.getElem?_map,h];rfl)
set_option maxHeartbeats 8000000 in
theorem ret72(hi:Off is){b:Bk}(h:BOk b){L:List Int}(hl:L.length≤64)(hr:∀x∈L,0≤x∧x<b.scenes.length):RetP Tryd.prog is orc 72 [b.u,.lst .ro 1 (zE L)] (.int .i64 (wt b L)):=by
 refine zp body72 pure72 (hi 72 (by decide)) rfl rfl (zu (wU b 4) (zR 6 .ro (fun h=>by cases h) 1 L)) (.inl (.int _ _ _)) ?_
 refine kQ (yB rfl rfl (zB rfl (zC ?_)))
 refine zF [(1,.lst .ro 1 (zE L)),(2,U.box 0 0)] ([SB.box (Bk.cs b)]) (.n2 rfl) rfl fun fr=>?_
 refine kQ (zB rfl (zC (k_seq (kQ (zA rfl (zP rfl ty83 rfl (List.length_map _) ?_))))))
 refine zA rfl (zC (zH ?_))
 refine yR (fun kk s2=>∃i:Nat,kk+i=L.length∧s2.st=[.box (Bk.cs b)]∧Holds s2 [(2,.box 0 0),(5,accI ((L.take i).map (wtA b))),(8,.lst .ro 1 (zE L)),(9,.int .i64 L.length),(10,.int .i64 i)]) (fun kk s2 hI=>?_) L.length _ ⟨0,rfl,rfl,.c4 rfl rfl rfl rfl (.n1 rfl)⟩
 obtain⟨i,hk,hst2,hs2⟩:=hI
 by_cases hin:i<L.length
 ·obtain⟨x,hx⟩:∃x,L[i]? =some x:=⟨L[i],List.getElem?_eq_getElem hin⟩
  have hxr:=hr x (List.mem_of_getElem? hx)
  obtain⟨q,hq⟩:∃q,b.scenes[x.toNat]? =some q:=⟨b.scenes[x.toNat],List.getElem?_eq_getElem (by omega)⟩
  have hqw:wtA b x=q.wt:=by unfold wtA;rw[hq];rfl
  have hsu:(L.take (i+1)).map (wtA b)=(L.take i).map (wtA b)++[q.wt]:=by rw[List.take_add_one,hx,List.map_append,←hqw];rfl
  have hlen:((L.take i).map (wtA b)).length≤64:=by simp;omega
  generalize (L.take i).map (wtA b)=M at*
  refine zF _ _ hs2 hst2 fun fr2=>?_
  cases M with
  |nil=>
   refine kQ (kq rfl (zC (k_seq (k_cT rfl (kH (by omega)) (zJ (k_seq (zH (kQ (zX (u:=.int .i64 (x)) rfl ty83 rfl rfl (Int.natCast_nonneg _) (by simp[hx]) cl3 ?_)))))))))
   refine kE sh3 rfl ?_
   refine zB rfl (zC (k_region (zA rfl (kA rfl wL (kA rfl ze (kC sh23 rfl (zA rfl (zX (u:=(q).u) rfl ty23 rfl rfl (by omega) (by simp[hq]) cl50 ?_))))))))
   refine yV rfl rfl zCE ?_
   refine kE sh3 rfl ?_
   refine wW (es:=[.int .i64 (Sc.wt q)]) rfl ty22 ze3 cl3 rfl rfl rfl rfl rfl rfl rfl rfl ?_
   refine wC rfl wF rfl rfl (by simp) (by simp) (by simp[yF,zg,oneU]) (by simp) ?_
   refine zB rfl (zC ?_)
   refine zF [(2,U.box 0 0),(5,U.lst Kd.own 1 [.int .i64 (Sc.wt q)]),(8,.lst .ro 1 (zE L)),(9,.int .i64 ↑(List.length L)),(10,.int .i64 ↑i)] ([SB.box (Bk.cs b)]) (.n5 rfl) rfl fun fr=>?_
   refine k_region ?_
   refine kB rfl (by unfold I64;omega) (zA rfl (zC ?_))
   exact⟨kk - 1,by omega,i+1,by omega,rfl,.cons rfl (.cons (by rw[hsu];rfl) (.n3 rfl))⟩
  |cons y M=>
   refine kQ (kq rfl (zC (k_seq (k_cT rfl (kH (by omega)) (zJ (k_seq (zH (kQ (zX (u:=.int .i64 (x)) rfl ty83 rfl rfl (Int.natCast_nonneg _) (by simp[hx]) cl3 ?_)))))))))
   refine kE sh3 rfl ?_
   refine zB rfl (zC (k_region (zA rfl (kA rfl wL (kA rfl ze (kC sh23 rfl (zA rfl (zX (u:=(q).u) rfl ty23 rfl rfl (by omega) (by simp[hq]) cl50 ?_))))))))
   refine yV rfl rfl zCE ?_
   refine kE sh3 rfl ?_
   refine wW (es:=[.int .i64 (Sc.wt q)]) rfl ty22 ze3 cl3 rfl rfl rfl rfl rfl rfl rfl rfl ?_
   refine wX 5 rfl wF rfl rfl rfl (by simp) (by simp) (by simp[yF,zg,oneU]) (by simp at hlen ⊢;omega) ?_
   refine zB rfl (zC (k_region ?_))
   refine kB rfl (by unfold I64;omega) (zA rfl (zC ?_))
   exact⟨kk - 1,by omega,i+1,by omega,rfl,.cons rfl (.cons (by rw[hsu,wO];rfl) (.n3 rfl))⟩
 ·have hie:i=L.length:=by omega
  subst hie
  rw[List.take_length]at*
  have q93:=ret93 (orc:=orc) hi (l:=L.map (wtA b)) (by simp;omega) (fun y hy=>by
   obtain⟨x,_,rfl⟩:=List.mem_map.1 hy
   have:=wt_b h x;omega)
  change RetP _ _ _ _ _ (.int .i64 (wt b L))at q93
  have hu:=uw_accI (L.map (wtA b))
  generalize L.map (wtA b)=M at*
  refine zF _ _ hs2 hst2 fun fr2=>?_
  cases M with
  |nil=>
   refine kQ (kq rfl (zC (k_seq (k_cF rfl (kI (by omega)) (zr (kQ (zA rfl (zG rfl (q93) (.lcons _ _ _ _ (.nil _ _ _) (.lrefl _)) ?_))))))))
   refine zB rfl (zC (zS ?_))
   refine⟨.inr rfl,_,.cons _ _ _ _ (.tmp 4) .nil,?_⟩
   exact .refl _
  |cons y M=>
   refine kQ (kq rfl (zC (k_seq (k_cF rfl (kI (by omega)) (zr (kQ (zA rfl (zG rfl (q93) (.lrefl _) (zB rfl (zC (zS ?_)))))))))))
   refine⟨.inr rfl,_,.cons _ _ _ _ (.tmp 4) .nil,?_⟩
   exact .refl _
end
end Go.Proofs.YtlknfhjfkcboiaaDoor.night
