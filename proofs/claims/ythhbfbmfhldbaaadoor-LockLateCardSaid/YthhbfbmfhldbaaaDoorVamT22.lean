import Derived.Test.YthhbfbmfhldbaaaDoorVamT21
set_option linter.unusedVariables false
set_option linter.unusedSimpArgs false
set_option linter.constructorNameAsVariable false
namespace Go.Proofs.YthhbfbmfhldbaaaDoor.locks
open Vam
section
variable {is:FuncId→Bool}{orc:Known}{l:Ln}
set_option maxHeartbeats 8000000 in
theorem ret23(hi:Off is)(A:List Int)(hl:A.length≤4096):RetP Tryd.prog is orc 23 [.lst .ro 1 (zE A),.lst .ro 1 (zE A)] (.bool true):=by
 refine yH body23 pure23 (hi 23 (by decide)) rfl rfl (wE (yK 6 .ro (fun h=>by cases h) 1 A) (yK 6 .ro (fun h=>by cases h) 1 A)) (.inl (.bool _ _)) ?_
 refine kQ (zC rfl (zB (kQ (zA rfl (zk rfl ty22 rfl (List.length_map _) ?_)))))
 refine zA rfl (zk rfl ty22 rfl (List.length_map _) ?_)
 refine ks rfl (zC rfl (zB (k_seq (kQ (zC rfl (zB (zG ?_)))))))
 refine yZ (fun kk s2=>∃i:Nat,kk+i=A.length∧s2.st=[]∧Holds s2 [(0,.lst .ro 1 (zE A)),(1,.lst .ro 1 (zE A)),(5,.bool true),(6,.int .i64 i)]) (fun kk s2 hI=>?_) A.length _ ⟨0,by omega,rfl,.cons rfl (.cons rfl (.cons (by show U.bool (decide _)=_;simp) (.n1 rfl)))⟩
 obtain⟨i,hk,hst2,hs2⟩:=hI
 refine zH _ _ hs2 hst2 fun fr2=>?_
 by_cases hj:i<A.length
 ·have hx:A[i]? =some (A[i]'hj):=List.getElem?_eq_getElem hj
  generalize A[i]'hj=x at hx
  refine k_seq (kQ (zA rfl (zA rfl (kf rfl (zA rfl (kf rfl (zA rfl (kf rfl (zk rfl ty22 rfl (List.length_map _) ?_)))))))))
  refine kf rfl (kp rfl (kE rfl ?_))
  refine zB (k_cT rfl (kF (by omega)) (zK (k_seq (zG (yI [.plain,.plain,.plain,.read true,.plain,.plain,.plain,.read true,.plain,.plain] (by kernel_rfl) (by kernel_rfl) (by kernel_rfl) ?_)))))
  refine zD (zA rfl (zB rfl)) (zD (zA rfl (zB rfl)) (zD (zf (u:=.int .i64 (x)) rfl ty22 rfl rfl (Int.natCast_nonneg _) (by simp[hx]) cl3 (zB rfl)) ?_))
  refine zP rfl (kC sh3 rfl (zB rfl)) ?_
  refine zD (zA rfl (zB rfl)) (zD (zA rfl (zB rfl)) (zD (zf (u:=.int .i64 (x)) rfl ty22 rfl rfl (Int.natCast_nonneg _) (by simp[hx]) cl3 (zB rfl)) ?_))
  refine zP rfl (kC sh3 rfl (zB rfl)) ?_
  refine zD (ks rfl (zB rfl)) ?_
  refine zD (zC rfl (zB rfl)) ?_
  refine yu ?_
  refine k_region (zA rfl ?_)
  refine kz rfl (by unfold I64;omega) (zC rfl (zB ?_))
  exact⟨kk - 1,by omega,i+1,by omega,rfl,.cons rfl (.cons rfl (.cons (by show U.bool (decide _)=_;simp) (.n1 rfl)))⟩
 ·refine k_seq ?_
  refine kQ (zA rfl (zA rfl (kf rfl (zA rfl (kf rfl (zA rfl (kf rfl (zk rfl ty22 rfl (List.length_map _) ?_))))))))
  refine kf rfl (kp rfl (kE rfl ?_))
  refine zB (k_cF rfl (kG (by omega)) (zp (kQ (zA rfl (zC rfl (zB (zY ?_)))))))
  refine⟨.inr rfl,_,.cons _ _ _ _ (.tmp 4) .nil,?_⟩
  exact .refl _
  done
end
section
variable {l:Ln}
theorem bit_tb:∀v:Nat,v<256→∀t:Nat,t<8→bitI (v:Int) (t:Int)=v.testBit t:=by decide+kernel
theorem hr_tb(h:VL l){p:List Int}(hd:divB l p=true)(w:Int)(b:Nat)(t:Nat)(k:Nat):∀i,i≤l.slots.length→((hrN l p w b i k).testBit t=true↔ ∃j,j<i∧at' p j≠ -1∧k=posN l p w b j∧at' l.slots j=t):=by
 intro i
 induction i with
 |zero=>intro _;unfold hrN;simp
 |succ i ih=>
  intro hi
  obtain⟨s,_,ha,hs⟩:=h.at (show i<l.slots.length by omega)
  have htk:=(zAZ.1 hd).2.1 i (by omega)
  unfold hrN
  by_cases c:at' p i≠ -1∧k=posN l p w b i
  ·rw[if_pos c,Nat.testBit_or,Bool.or_eq_true,ih (by omega),Nat.testBit_two_pow]
   have hs0:0≤s:=by
    rcases zBq htk with ⟨e,_⟩|⟨_,e⟩
    ·exact absurd e c.1
    ·rw[ha]at e;omega
   constructor
   ·rintro(⟨j,h1,h2⟩|e)
    ·exact⟨j,by omega,h2⟩
    ·refine⟨i,by omega,c.1,c.2,?_⟩
     have:=of_decide_eq_true e
     rw[ha]at this ⊢;omega
   ·rintro⟨j,h1,h2,h3,h4⟩
    by_cases e:j=i
    ·right
     subst e
     refine kF ?_
     rw[h4];omega
    ·exact .inl ⟨j,by omega,h2,h3,h4⟩
  ·rw[if_neg c,ih (by omega)]
   constructor
   ·rintro⟨j,h1,h2⟩;exact⟨j,by omega,h2⟩
   ·rintro⟨j,h1,h2,h3,h4⟩
    by_cases e:j=i
    ·subst e;exact absurd ⟨h2,h3⟩ c
    ·exact⟨j,by omega,h2,h3,h4⟩
def frN(n b i:Nat):Nat:=(((i:Int) - b) % (n:Int)).toNat
theorem frN_lt{n b i:Nat}(hn:1≤n):frN n b i<n:=by
 unfold frN
 have:=Int.emod_lt_of_pos ((i:Int) - b) (show(0:Int)<n by omega)
 have:=Int.emod_nonneg ((i:Int) - b) (show(n:Int)≠0 by omega)
 omega
theorem frN_eq{n b i:Nat}(hn:1≤n):((frN n b i:Nat):Int)=((i:Int) - b) % (n:Int):=by
 unfold frN
 have:=Int.emod_nonneg ((i:Int) - b) (show(n:Int)≠0 by omega)
 omega
theorem fr_iff{n b i j:Nat}(hn:1≤n)(hi:i<n)(hj:j<n):i=(j+b) % n↔frN n b i=j:=by
 have h1:=frN_eq (n:=n) (b:=b) (i:=i) hn
 constructor
 ·intro e
  have e:(i:Int)=((j:Int)+b) % n:=by rw[e];push_cast;rfl
  rw[e,Int.sub_emod,Int.emod_emod_of_dvd _ (Int.dvd_refl _),←Int.sub_emod,Int.add_sub_cancel,Int.emod_eq_of_lt (by omega) (by omega)]at h1
  omega
 ·intro e
  rw[e]at h1
  have h2:(((j+b) % n:Nat):Int)=((j:Int)+b) % n:=by push_cast;rfl
  have h3:((j:Int)+b) % n=(i:Int):=by
   rw[h1,Int.add_emod,Int.emod_emod_of_dvd _ (Int.dvd_refl _),←Int.add_emod,Int.sub_add_cancel,Int.emod_eq_of_lt (by omega) (by omega)]
  omega
def cndB(l:Ln)(p:List Int)(w:Int)(b i t:Nat):Bool:=(decide (at' p i=1 - w)&&decide (at' l.slots i=t))||(decide (at' p (frN l.slots.length b i)=w)&&decide (at' l.slots (frN l.slots.length b i)=t))
theorem late_cnd(h:VL l){p:List Int}(hd:divB l p=true){w:Int}(hw:w=0∨w=1)(b:Nat){i t:Nat}(hi:i<l.slots.length)(ht:t<8):bitI (hrN l p w b l.slots.length i:Nat) (t:Nat)=cndB l p w b i t:=by
 have hn:=h.n
 have hlt:=hrN_lt h p w b l.slots.length (Nat.le_refl _) i
 rw[bit_tb _ hlt t ht]
 have key:=hr_tb h hd w b t i l.slots.length (Nat.le_refl _)
 have hp:∀j,j<l.slots.length→at' p j≠ -1→at' p j=0∨at' p j=1:=fun j hj hne=>by
  rcases zBq ((zAZ.1 hd).2.1 j hj)with ⟨e,_⟩|⟨e,_⟩
  ·exact absurd e hne
  ·exact e
 rw[Bool.eq_iff_iff,key]
 unfold cndB
 rw[Bool.or_eq_true,Bool.and_eq_true,Bool.and_eq_true,decide_eq_true_eq,decide_eq_true_eq,decide_eq_true_eq,decide_eq_true_eq]
 constructor
 ·rintro⟨j,h1,h2,h3,h4⟩
  unfold posN at h3
  by_cases c:at' p j=w
  ·rw[if_pos c]at h3
   have:=(fr_iff hn.1 hi h1).1 h3
   right
   rw[this];exact⟨c,h4⟩
  ·rw[if_neg c]at h3
   subst h3
   left
   have h5:=hp i h1 h2
   refine⟨?_,h4⟩
   clear key hlt h4 h1 h2 hp
   generalize at' p i=x at*
   omega
 ·rintro(⟨h1,h2⟩|⟨h1,h2⟩)
  ·refine⟨i,hi,by omega,?_,h2⟩
   unfold posN
   rw[if_neg (by omega)]
  ·refine⟨_,frN_lt hn.1,by omega,?_,h2⟩
   unfold posN
   rw[if_pos h1]
   exact(fr_iff hn.1 hi (frN_lt hn.1)).2 rfl
theorem row_cnd(h:VL l){p:List Int}(hd:divB l p=true){w:Int}(hw:w=0∨w=1)(b:Nat){i:Nat}(hi:i<l.slots.length):rowN (hrN l p w b l.slots.length) i=memP (cndB l p w b i) 8:=by
 unfold rowN
 exact memP_congr fun t ht=>late_cnd h hd hw b hi ht
theorem tdS_le{p:List Int}{x y:Nat×Nat}{t:Int}:tdS l p x t y≤t:=by unfold tdS;split<;>omega
theorem tdI_le{p:List Int}{x:Nat×Nat}:∀(M:List (Nat×Nat)) (t:Int),M.foldl (tdS l p x) t≤t:=by
 intro M
 induction M with
 |nil=>intro t;exact Int.le_refl _
 |cons y M ih=>intro t;have:=ih (tdS l p x t y);have:=tdS_le (l:=l) (p:=p) (x:=x) (y:=y) (t:=t);show M.foldl (tdS l p x) (tdS l p x t y)≤t;omega
theorem tdI_lt{p:List Int}{x y:Nat×Nat}(hq:alkQ l p x y):∀(M:List (Nat×Nat)) (t:Int),y∈M→M.foldl (tdS l p x) t≤max (x.2:Int) y.2 - 1:=by
 intro M
 induction M with
 |nil=>intro t h;cases h
 |cons z M ih=>
  intro t hy
  show M.foldl (tdS l p x) (tdS l p x t z)≤_
  rcases List.mem_cons.1 hy with e|hy
  ·subst e
   have h1:=tdI_le (l:=l) (p:=p) (x:=x) M (tdS l p x t y)
   have h2:tdS l p x t y=min t (max (x.2:Int) y.2 - 1):=by unfold tdS;exact if_pos hq
   omega
  ·exact ih _ hy
theorem tdO_le{p:List Int}:∀(L:List (Nat×Nat)) (t:Int),L.foldl (tdI l p) t≤t:=by
 intro L
 induction L with
 |nil=>intro t;exact Int.le_refl _
 |cons y L ih=>intro t;have:=ih (tdI l p t y);have h2:tdI l p t y≤t:=tdI_le _ _;show L.foldl (tdI l p) (tdI l p t y)≤t;omega
theorem tdO_lt{p:List Int}{x y:Nat×Nat}(hq:alkQ l p x y)(hy:y∈preL 18):∀(L:List (Nat×Nat)) (t:Int),x∈L→L.foldl (tdI l p) t≤max (x.2:Int) y.2 - 1:=by
 intro L
 induction L with
 |nil=>intro t h;cases h
 |cons z L ih=>
  intro t hx
  show L.foldl (tdI l p) (tdI l p t z)≤_
  rcases List.mem_cons.1 hx with e|hx
  ·subst e
   have h1:=tdO_le (l:=l) (p:=p) L (tdI l p t x)
   have h2:tdI l p t x≤max (x.2:Int) y.2 - 1:=tdI_lt hq _ _ hy
   omega
  ·exact ih _ hx
theorem pre_in{w b:Nat}(hw:w≤1)(hb:b≤8):(w,b)∈preL 18:=by
 refine List.mem_map.2 ⟨9*w+b,List.mem_range.2 (by omega),zGU (by omega)⟩
theorem alk_no{p:List Int}{x y:Nat×Nat}(hx:x∈preL 18)(hy:y∈preL 18)(hs:sndL l p x=sndL l p y)(h1:(x.2:Int)≤tdO l p (preL 18))(h2:(y.2:Int)≤tdO l p (preL 18)):x=y∨(x.2=0∧y.2=0):=by
 by_cases c:x=y
 ·exact .inl c
 ·right
  by_cases c2:0<max (x.2:Int) y.2
  ·have h3:tdO l p (preL 18)≤max (x.2:Int) y.2 - 1:=tdO_lt ⟨c,c2,hs⟩ hy _ 8 hx
   omega
  ·omega
theorem one_pre:∀w,w<2→∀b,b<9→((preL 18).filter fun x=>decide (x=(w,b))).length=1:=by decide+kernel
theorem two_pre:((preL 18).filter fun x=>decide (x.2=0)).length=2:=by decide+kernel
theorem hr_zero{p:List Int}(w v:Int)(k:Nat):∀i,i≤l.slots.length→hrN l p w 0 i k=hrN l p v 0 i k:=by
 intro i
 induction i with
 |zero=>intro _;rfl
 |succ i ih=>
  intro hi
  have e:∀u,posN l p u 0 i=i:=fun u=>by
   unfold posN
   split
   ·rw[Nat.add_zero,Nat.mod_eq_of_lt (by omega)]
   ·rfl
  unfold hrN
  rw[ih (by omega),e,e]
theorem least_cnt(h:VL l){p:List Int}(hd:divB l p=true){w b:Nat}(hw:w≤1)(hb:b≤8){t:Nat}(ht:(t:Int)=tdO l p (preL 18))(hbt:b≤t):
  ((whoL l p (sndL l p (w,b)) (preL 18)).filter fun x=>decide (x.2≤t)).length=if b=0 then 2 else 1:=by
 have hp:=(zAZ.1 hd).1
 have e:(whoL l p (sndL l p (w,b)) (preL 18)).filter (fun x=>decide (x.2≤t))=(preL 18).filter fun x=>decide (sndL l p x=sndL l p (w,b))&&decide (x.2≤t):=by
  unfold whoL
  rw[List.filter_filter]
  congr 1
  funext x
  rw[Bool.and_comm];rfl
 rw[e]
 by_cases c:b=0
 ·rw[if_pos c,←two_pre]
  congr 1
  refine List.filter_congr fun x hx=>?_
  rw[Bool.eq_iff_iff,Bool.and_eq_true,decide_eq_true_eq,decide_eq_true_eq,decide_eq_true_eq]
  subst c
  constructor
  ·rintro⟨h1,h2⟩
   rcases alk_no hx (pre_in hw hb) h1 (by omega) (by simp;omega)with e|⟨e,_⟩
   ·rw[e]
   ·exact e
  ·intro h1
   refine⟨?_,by omega⟩
   unfold sndL
   rw[h1]
   exact zAn fun k _=>hr_zero _ _ k _ (by omega)
 ·rw[if_neg c,←one_pre w (by omega) b (by omega)]
  congr 1
  refine List.filter_congr fun x hx=>?_
  rw[Bool.eq_iff_iff,Bool.and_eq_true,decide_eq_true_eq,decide_eq_true_eq,decide_eq_true_eq]
  constructor
  ·rintro⟨h1,h2⟩
   rcases alk_no hx (pre_in hw hb) h1 (by omega) (by show(b:Int)≤_;omega)with e|⟨_,e⟩
   ·exact e
   ·exact absurd e c
  ·intro h1
   rw[h1];exact⟨rfl,hbt⟩
theorem who_in(l:Ln)(p:List Int){w b:Nat}(hw:w≤1)(hb:b≤8):(w,b)∈whoL l p (sndL l p (w,b)) (preL 18):=by
 unfold whoL
 exact List.mem_filter.2 ⟨pre_in hw hb,kF rfl⟩
end
end Go.Proofs.YthhbfbmfhldbaaaDoor.locks
