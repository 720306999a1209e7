import Derived.Test.YthhbfbmfhldbaaaDoorVamT25
set_option linter.unusedVariables false
set_option linter.unusedSimpArgs false
set_option linter.constructorNameAsVariable false
namespace Go.Proofs.YthhbfbmfhldbaaaDoor.locks
open Vam
section
variable {l:Ln}
def los(m:Int)(gone A:List Int):Nat→List Int×List Int
 |0=>([],[])
 |i+1=>if((los m gone A i).2.length:Int)<m∧zCH (nthI gone i) 3=0 then((los m gone A i).1,(los m gone A i).2++[at' A i])else((los m gone A i).1++[at' A i],(los m gone A i).2)
theorem pw_snoc{L:List Int}{x:Int}(h:L.Pairwise (fun x y=>x<y))(hx:∀y∈L,y<x):(L++[x]).Pairwise (fun x y=>x<y):=List.pairwise_append.2 ⟨h,List.pairwise_singleton _ _,fun a ha b hb=>by rcases List.mem_singleton.1 hb with rfl;exact hx a ha⟩
theorem los_spec{m:Int}(hm:0≤m)(gone:List Int){A:List Int}(hA:A.Pairwise (fun x y=>x<y)):∀i,i≤A.length→(los m gone A i).1.Pairwise (fun x y=>x<y)∧(los m gone A i).2.Pairwise (fun x y=>x<y)∧(∀x,x∈(los m gone A i).1∨x∈(los m gone A i).2↔x∈A.take i)∧(∀x∈(los m gone A i).1,x ∉ (los m gone A i).2)∧((los m gone A i).2.length:Int)≤m:=by
 intro i
 induction i with
 |zero=>intro _;exact⟨List.Pairwise.nil,List.Pairwise.nil,(fun x=>by simp[los]),(fun x h=>by cases(show x∈[]from h)),(by show(0:Int)≤m;exact hm)⟩
 |succ i ih=>
  intro hi
  obtain⟨h1,h2,h3,h4,h5⟩:=ih (by omega)
  have e:A[i]? =some A[i]:=List.getElem?_eq_getElem (by omega)
  have ea:at' A i=A[i]:=by unfold at';rw[e];rfl
  have hlt:∀y∈A.take i,y<A[i]:=fun y hy=>by
   obtain⟨j,hj,hjy⟩:=List.getElem_of_mem hy
   rw[List.length_take]at hj
   rw[List.getElem_take]at hjy
   rw[←hjy]
   exact List.pairwise_iff_getElem.1 hA j i (by omega) (by omega) (by omega)
  have ht:∀x,x∈A.take (i+1)↔x∈A.take i∨x=A[i]:=fun x=>by
   rw[List.take_add_one,e,List.mem_append];simp
  have hn1:A[i] ∉ (los m gone A i).1:=fun h=>by have:=hlt _ ((h3 _).1 (.inl h));omega
  have hn2:A[i] ∉ (los m gone A i).2:=fun h=>by have:=hlt _ ((h3 _).1 (.inr h));omega
  unfold los
  rw[ea]
  by_cases c:((los m gone A i).2.length:Int)<m∧zCH (nthI gone i) 3=0
  ·rw[if_pos c]
   refine⟨h1,pw_snoc h2 fun y hy=>hlt y ((h3 y).1 (.inr hy)),fun x=>?_,fun x hx=>?_,?_⟩
   ·rw[ht,←h3,List.mem_append,List.mem_singleton];exact or_assoc.symm
   ·rw[List.mem_append,List.mem_singleton]
    rintro(h|h)
    ·exact h4 x hx h
    ·rw[h]at hx;exact hn1 hx
   ·rw[List.length_append];show(((los m gone A i).2.length+1:Nat):Int)≤m;omega
  ·rw[if_neg c]
   refine⟨pw_snoc h1 fun y hy=>hlt y ((h3 y).1 (.inl hy)),h2,fun x=>?_,fun x hx=>?_,h5⟩
   ·rw[ht,←h3,List.mem_append,List.mem_singleton]
    constructor
    ·rintro((h|h)|h)
     ·exact .inl (.inl h)
     ·exact .inr h
     ·exact .inl (.inr h)
    ·rintro((h|h)|h)
     ·exact .inl (.inl h)
     ·exact .inr h
     ·exact .inl (.inr h)
   ·rcases List.mem_append.1 hx with hx|hx
    ·exact h4 x hx
    ·rcases List.mem_singleton.1 hx with rfl;exact hn2
theorem los_len(m:Int)(gone A:List Int):∀i,(los m gone A i).1.length+(los m gone A i).2.length=i:=by
 intro i
 induction i with
 |zero=>rfl
 |succ i ih=>unfold los;split<;>simp<;>omega
theorem memP_le{P Q:Nat→Bool}:∀n:Nat,(∀k,k<n→P k=true→Q k=true)→(memP P n).length≤(memP Q n).length:=by
 intro n
 induction n with
 |zero=>intro _;exact Nat.le_refl _
 |succ n ih=>
  intro h
  have:=ih fun k hk=>h k (by omega)
  have h2:=h n (by omega)
  rw[zCX,zCX,List.length_append,List.length_append]
  cases c:P n with
  |true=>rw[h2 c];simp;omega
  |false=>rw[if_neg (by decide)];simp;omega
theorem mem_prt{p:List Int}{w x:Int}:x∈prtL p w↔ ∃i:Nat,i<p.length∧x=i∧at' p i=w:=by
 unfold prtL
 rw[wd]
 constructor
 ·rintro⟨i,h1,h2,h3⟩;exact⟨i,h1,h2,of_decide_eq_true h3⟩
 ·rintro⟨i,h1,h2,h3⟩;exact⟨i,h1,h2,kF h3⟩
structure Hrd(l:Ln)(w:Int)(X H O:List Int):Prop where
 hp:H.Pairwise (fun x y=>x<y)
 op:O.Pairwise (fun x y=>x<y)
 mem:∀x,x∈H∨x∈O↔x∈prtL X w
 no:∀x∈H,x ∉ O
theorem los_hrd{m:Int}(hm:0≤m)(gone:List Int)(X:List Int)(w:Int):Hrd l w X (los m gone (prtL X w) (prtL X w).length).1 (los m gone (prtL X w) (prtL X w).length).2∧((los m gone (prtL X w) (prtL X w).length).2.length:Int)≤m:=by
 obtain⟨h1,h2,h3,h4,h5⟩:=los_spec hm gone (A:=prtL X w) (zCY _ _) _ (Nat.le_refl _)
 rw[List.take_length]at h3
 exact⟨⟨h1,h2,h3,h4⟩,h5⟩
theorem Hrd.right{w:Int}{X H O:List Int}(hw:w=0∨w=1)(hX:X.length=l.slots.length)(h:Hrd l w X H O):wQ l w H=true:=by
 refine zFP.2 ⟨hw,h.hp,fun x hx=>?_⟩
 obtain⟨i,h1,h2,_⟩:=mem_prt.1 ((h.mem x).1 (.inl hx))
 omega
theorem Hrd.fit{w:Int}{X H O:List Int}(h:Hrd l w X H O):fitB w H X=true:=by
 unfold fitB
 cases c:(b16 (woF (onF H) (plF X w))).any id with
 |false=>rfl
 |true=>
  obtain⟨k,hk,hc⟩:=(any16 _).1 c
  unfold woF onF plF at hc
  rw[Bool.and_eq_true]at hc
  obtain⟨i,h1,h2,h3⟩:=mem_prt.1 ((h.mem _).1 (.inl (of_decide_eq_true hc.1)))
  rw[show i=k by omega]at h3
  rw[kF h3]at hc
  cases hc.2
theorem Hrd.los{w:Int}{X H O:List Int}(hw1:w≠ -1)(hX:X.length≤16)(h:Hrd l w X H O):memP (losF w H X) 16=O:=by
 refine inc_eq (zCY _ _) h.op fun x=>?_
 rw[wd]
 constructor
 ·rintro⟨i,h1,rfl,h3⟩
  unfold losF woF plF onF at h3
  rw[Bool.and_eq_true]at h3
  have hw:=of_decide_eq_true h3.1
  have hn:(i:Int) ∉ H:=fun hh=>by rw[kF hh]at h3;cases h3.2
  by_cases hi:i<X.length
  ·rcases(h.mem i).2 (mem_prt.2 ⟨i,hi,rfl,hw⟩)with hh|hh
   ·exact absurd hh hn
   ·exact hh
  ·exfalso
   have h0:at' X i= -1:=zFx (by omega)
   omega
 ·intro hx
  obtain⟨i,h1,h2,h3⟩:=mem_prt.1 ((h.mem x).1 (.inr hx))
  refine⟨i,by omega,h2,?_⟩
  unfold losF woF plF onF
  rw[Bool.and_eq_true]
  refine⟨kF h3,?_⟩
  rw[kG (fun hh=>h.no _ hh (by rw[←h2];exact hx))];rfl
theorem Hrd.many{w:Int}{X H O:List Int}(hw1:w≠ -1)(hX:X.length≤16)(h:Hrd l w X H O):zAm w H X=O.length:=by
 unfold zAm;rw[h.los hw1 hX]
theorem Hrd.mem_few{w:Int}{X H O:List Int}(hv:VL l)(hd:divB l X=true)(hw1:w≠ -1)(h:Hrd l w X H O){m:Int}(hm:(O.length:Int)≤m):X∈fewL l w H m:=by
 have hn:=hv.n
 have hX:=(zDN.1 hd).1
 refine List.mem_filter.2 ⟨List.mem_filter.2 ⟨(spl_div hv).2 hd,h.fit⟩,?_⟩
 unfold fewB
 rw[h.many hw1 (by omega)]
 exact kF hm
theorem cnt_all{w:Int}{H:List Int}{L:List (List Int)}{k:Nat}:lcnt w H L k=L.length↔ ∀p∈L,losF w H p k=true:=by
 unfold lcnt
 rw[List.length_filter_eq_length_iff]
theorem cnt_pos{w:Int}{H:List Int}{L:List (List Int)}{k:Nat}:0<lcnt w H L k↔ ∃p∈L,losF w H p k=true:=by
 unfold lcnt
 rw[List.length_pos_iff_exists_mem]
 constructor
 ·rintro⟨p,hp⟩;obtain⟨h1,h2⟩:=List.mem_filter.1 hp;exact⟨p,h1,h2⟩
 ·rintro⟨p,h1,h2⟩;exact⟨p,List.mem_filter.2 ⟨h1,h2⟩⟩
theorem all_iff{w:Int}{H:List Int}{L:List (List Int)}{k:Nat}:allF L.length (lcnt w H L) k=true↔ ∀p∈L,losF w H p k=true:=by
 unfold allF
 rw[decide_eq_true_eq,cnt_all]
theorem som_iff{w:Int}{H:List Int}{L:List (List Int)}{k:Nat}:somF L.length (lcnt w H L) k=true↔(∃p∈L,losF w H p k=true)∧ ¬ ∀p∈L,losF w H p k=true:=by
 unfold somF
 rw[Bool.and_eq_true,decide_eq_true_eq,decide_eq_true_eq,cnt_pos,←cnt_all]
 have:=lcnt_le w H L k
 constructor
 ·rintro⟨h1,h2⟩;exact⟨h1,by omega⟩
 ·rintro⟨h1,h2⟩;exact⟨h1,by omega⟩
theorem few_len(hv:VL l){w:Int}{H:List Int}{m:Int}{p:List Int}(h:p∈fewL l w H m):p.length=l.slots.length:=spl_len hv (fit_spl (List.mem_filter.1 h).1)
theorem los_in(hv:VL l){w:Int}(hw1:w≠ -1){H:List Int}{m:Int}{p:List Int}{k:Nat}(h:p∈fewL l w H m)(hk:losF w H p k=true):k<l.slots.length:=by
 by_cases c:k<l.slots.length
 ·exact c
 ·rw[los_out hw1 (by rw[few_len hv h];omega)]at hk;cases hk
theorem grow_all(hv:VL l){w:Int}(hw1:w≠ -1){H:List Int}{m:Int}{X:List Int}(hX:X∈fewL l w H m):grwB (-1) l.slots.length (memP (allF (fewL l w H m).length (lcnt w H (fewL l w H m))) 16)=true:=by
 refine(grw_iff _ _).2 ⟨zCY _ _,fun x hx=>?_⟩
 obtain⟨i,h1,rfl,h3⟩:=wd.1 hx
 have:=los_in hv hw1 hX (all_iff.1 h3 X hX)
 omega
theorem grow_som(hv:VL l){w:Int}(hw1:w≠ -1){H:List Int}{m:Int}:grwB (-1) l.slots.length (memP (somF (fewL l w H m).length (lcnt w H (fewL l w H m))) 16)=true:=by
 refine(grw_iff _ _).2 ⟨zCY _ _,fun x hx=>?_⟩
 obtain⟨i,h1,rfl,h3⟩:=wd.1 hx
 obtain⟨p,hp,hk⟩:=(som_iff.1 h3).1
 have:=los_in hv hw1 hp hk
 omega
theorem lost_told(hv:VL l){X:List Int}(hd:divB l X=true){w:Int}(hw:w=0∨w=1){H O:List Int}(h:Hrd l w X H O){m:Int}(hm:(O.length:Int)≤m)(hm6:m≤6):
  misE l w H m=0∧lstE l w H=0∧lstN l w H≤O.length∧(misA l w H m).length≤O.length∧(∀x∈misA l w H m,x∈O)∧(∀x∈O,x∈misA l w H m∨x∈misB l w H m)∧(misB l w H m=[]→misA l w H m=O)∧grwB (-1) l.slots.length (misA l w H m)=true∧grwB (-1) l.slots.length (misB l w H m)=true:=by
 have hn:=hv.n
 have hX:=(zDN.1 hd).1
 have hw1:w≠ -1:=by omega
 have hr:=h.right hw hX
 have hmf:=h.mem_few hv hd hw1 hm
 have hpos:0<(fewL l w H m).length:=List.length_pos_of_mem hmf
 have hE:misE l w H m=0:=by
  unfold misE
  rw[if_pos (wm.2 hv),if_pos (by rw[hr,zBV.2 ⟨by omega,hm6⟩];rfl),if_neg (by omega)]
 have hA:misA l w H m=memP (allF (fewL l w H m).length (lcnt w H (fewL l w H m))) 16:=by unfold misA;rw[if_pos hE]
 have hB:misB l w H m=memP (somF (fewL l w H m).length (lcnt w H (fewL l w H m))) 16:=by unfold misB;rw[if_pos hE]
 have hO:=h.los hw1 (show X.length≤16 by omega)
 have hfit:X∈fitL l w H:=(List.mem_filter.1 hmf).1
 have hle:lstE l w H=0∧lstN l w H≤O.length:=by
  rcases le_spec w H (fitL l w H)with ⟨e,_⟩|⟨f,e,_,h2⟩
  ·rw[e]at hfit;cases hfit
  ·have hEl:lstE l w H=0:=by unfold lstE;rw[if_pos (wm.2 hv),if_pos hr,e];rfl
   refine⟨hEl,?_⟩
   unfold lstN
   rw[if_pos hEl,e]
   have:=h2 X hfit
   rw[h.many hw1 (by omega)]at this
   exact this
 have hsub:∀k,allF (fewL l w H m).length (lcnt w H (fewL l w H m)) k=true→losF w H X k=true:=fun k hk=>all_iff.1 hk X hmf
 refine⟨hE,hle.1,hle.2,?_,?_,?_,?_,?_,?_⟩
 ·rw[hA,←hO];exact memP_le 16 fun k _ hk=>hsub k hk
 ·intro x hx
  rw[hA]at hx
  obtain⟨i,h1,h2,h3⟩:=wd.1 hx
  rw[←hO];exact wd.2 ⟨i,h1,h2,hsub i h3⟩
 ·intro x hx
  rw[←hO]at hx
  obtain⟨i,h1,h2,h3⟩:=wd.1 hx
  by_cases c:∀p∈fewL l w H m,losF w H p i=true
  ·left;rw[hA];exact wd.2 ⟨i,h1,h2,all_iff.2 c⟩
  ·right;rw[hB];exact wd.2 ⟨i,h1,h2,som_iff.2 ⟨⟨X,hmf,h3⟩,c⟩⟩
 ·intro hnil
  rw[hA,←hO]
  refine memP_congr fun i hi=>?_
  rw[Bool.eq_iff_iff]
  refine⟨hsub i,fun h3=>?_⟩
  by_cases c:∀p∈fewL l w H m,losF w H p i=true
  ·exact all_iff.2 c
  ·exfalso
   have:(i:Int)∈misB l w H m:=by rw[hB];exact wd.2 ⟨i,hi,rfl,som_iff.2 ⟨⟨X,hmf,h3⟩,c⟩⟩
   rw[hnil]at this;cases this
 ·rw[hA];exact grow_all hv hw1 hmf
 ·rw[hB];exact grow_som hv hw1
end
section
variable {is:FuncId→Bool}{orc:Known}{l:Ln}
noncomputable def b12:Code:=(Tryd.f12.body).getD .skip
theorem body12:bodyOf Tryd.prog 12=some (170,b12,[.tmp 8]):=by kernel_rfl
theorem pure12:pureFn Tryd.prog 12=true:=by kernel_rfl
theorem accI_ro2(L:List Int):UW (.u (accI L)) (.u (.lst .ro 1 (zE L))):=by
 cases L with
 |nil=>exact .nil .full .ro 1
 |cons y L=>exact .ro _ _ _
theorem los_yes{m:Int}{gone A:List Int}{i:Nat}(h1:((los m gone A i).2.length:Int)<m)(h2:zCH (nthI gone i) 3=0):(los m gone A (i+1)).1=(los m gone A i).1∧(los m gone A (i+1)).2=(los m gone A i).2++[at' A i]:=by
 show(if _ then _ else _:List Int×List Int).1=_∧(if _ then _ else _:List Int×List Int).2=_
 rw[if_pos ⟨h1,h2⟩];exact⟨rfl,rfl⟩
theorem los_no{m:Int}{gone A:List Int}{i:Nat}(h: ¬ (((los m gone A i).2.length:Int)<m∧zCH (nthI gone i) 3=0)):(los m gone A (i+1)).1=(los m gone A i).1++[at' A i]∧(los m gone A (i+1)).2=(los m gone A i).2:=by
 show(if _ then _ else _:List Int×List Int).1=_∧(if _ then _ else _:List Int×List Int).2=_
 rw[if_neg h];exact⟨rfl,rfl⟩
theorem misB_len(l:Ln)(w:Int)(H:List Int)(m:Int):(misB l w H m).length≤16:=by
 have e:∀(P:Prop) [Decidable P] (L:List Int),L.length≤16→(if P then L else []).length≤16:=fun P _ L h=>by
  by_cases c:P
  ·rw[if_pos c];exact h
  ·rw[if_neg c];exact Nat.zero_le _
 exact e _ _ (zBp _ _)
set_option maxHeartbeats 32000000 in
theorem ret12(hi:Off is)(l:Ln)(bits:List Int)(n0 n1:Int)(gone:List Int)(r26:RetP Tryd.prog is orc 26 [] (.bool true)):RetP Tryd.prog is orc 12 [l.u,.lst .ro 1 (zE bits),spanU n0 n1,.lst .ro 1 (zE gone)] (.bool true):=by
 refine yP body12 pure12 (hi 12 (by decide)) rfl rfl (dat_l4 (zAE l 5) (zp 6 .ro (fun h=>by cases h) 1 bits) (dat_span n0 n1 6) (zp 6 .ro (fun h=>by cases h) 1 gone)) (.inl (.bool _ _)) ?_
 have q41:=ret41 (orc:=orc) hi l
 cases hv:yq l with
 |false=>
  rw[hv]at q41
  refine kQ (zz rfl rfl (zz rfl rfl (zC rfl (zB ?_))))
  refine zH [(1,.lst .ro 1 (zE bits)),(3,.lst .ro 1 (zE gone)),(4,U.box 0 0),(6,U.box 1 0)] ([SB.box [.lst .ro 1 (zE (Ln.slots l)),.int .i64 (Ln.left l),.int .i64 (Ln.right l),.int .i64 (Ln.run l)],SB.box [.int .i64 n0,.int .i64 n1]]) (.n4 rfl) rfl fun fr=>?_
  refine k_seq (kQ (kB sh24 rfl (zO rfl (q41) (.lrefl _) (yc rfl rfl (zB (k_cT rfl rfl ?_))))))
  refine kQ (zO rfl (r26) (.lrefl _) (zC rfl (zB (zV ?_))))
  refine⟨.inr rfl,_,.cons _ _ _ _ (.tmp 8) .nil,?_⟩
  exact .refl _
 |true=>
  have h:=wm.1 hv
  have hn:=h.n
  rw[hv]at q41
  have q42:=ret42 (orc:=orc) hi h bits
  generalize drwL l bits l.slots.length=X at*
  have q43:=ret43 (orc:=orc) hi h X
  cases hd:divB l X with
  |false=>
   rw[hd]at q43
   refine kQ (zz rfl rfl (zz rfl rfl (zC rfl (zB ?_))))
   refine zH [(1,.lst .ro 1 (zE bits)),(3,.lst .ro 1 (zE gone)),(4,U.box 0 0),(6,U.box 1 0)] ([SB.box [.lst .ro 1 (zE (Ln.slots l)),.int .i64 (Ln.left l),.int .i64 (Ln.right l),.int .i64 (Ln.run l)],SB.box [.int .i64 n0,.int .i64 n1]]) (.n4 rfl) rfl fun fr=>?_
   refine k_seq (kQ (kB sh24 rfl (zO rfl (q41) (.lrefl _) (yc rfl rfl (zB (k_cF rfl rfl ?_))))))
   refine zN (kQ (kB sh24 rfl (zA rfl (zO rfl (q42) (.lrefl _) (zC rfl (zB (k_seq (kQ (kB sh24 rfl (zA rfl (zO rfl (q43) (.lrefl _) (yc rfl rfl (zB ?_)))))))))))))
   refine zH [(3,.lst .ro 1 (zE gone)),(4,U.box 0 0),(6,U.box 1 0),(9,.lst .ro 1 (zE X)),(33,U.bool !Bool.false)] ([SB.box [.lst .ro 1 (zE (Ln.slots l)),.int .i64 (Ln.left l),.int .i64 (Ln.right l),.int .i64 (Ln.run l)],SB.box [.int .i64 n0,.int .i64 n1]]) (.n5 rfl) rfl fun fr=>?_
   refine k_cT rfl rfl ?_
   refine kQ (zO rfl (r26) (.lrefl _) (zC rfl (zB (zV ?_))))
   refine⟨.inr rfl,_,.cons _ _ _ _ (.tmp 8) .nil,?_⟩
   exact .refl _
  |true=>
   rw[hd]at q43
   have hX:=(zDN.1 hd).1
   have q48a:=ret48 (orc:=orc) hi n0 2 (by decide)
   have q48b:=ret48 (orc:=orc) hi n1 7 (by decide)
   have hw:=turnI_b (n:=n0) (b:=2) (by decide)
   have hm:=turnI_b (n:=n1) (b:=7) (by decide)
   generalize zCH n0 2=w at*
   generalize zCH n1 7=m at*
   have hw2:w=0∨w=1:=by omega
   have q45:=ret45 (orc:=orc) hi (p:=X) (by omega) w
   obtain⟨hH,hOm⟩:=los_hrd (l:=l) hm.1 gone X w
   have htold:=lost_told h hd hw2 hH hOm (by omega)
   have hpl:=prt_len X w
   have hll:=los_len m gone (prtL X w)
   generalize prtL X w=A at*
   refine kQ (zz rfl rfl (zz rfl rfl (zC rfl (zB ?_))))
   refine zH [(1,.lst .ro 1 (zE bits)),(3,.lst .ro 1 (zE gone)),(4,U.box 0 0),(6,U.box 1 0)] ([SB.box [.lst .ro 1 (zE (Ln.slots l)),.int .i64 (Ln.left l),.int .i64 (Ln.right l),.int .i64 (Ln.run l)],SB.box [.int .i64 n0,.int .i64 n1]]) (.n4 rfl) rfl fun fr=>?_
   refine k_seq (kQ (kB sh24 rfl (zO rfl (q41) (.lrefl _) (yc rfl rfl (zB (k_cF rfl rfl ?_))))))
   refine zN (kQ (kB sh24 rfl (zA rfl (zO rfl (q42) (.lrefl _) (zC rfl (zB (k_seq (kQ (kB sh24 rfl (zA rfl (zO rfl (q43) (.lrefl _) (yc rfl rfl (zB ?_)))))))))))))
   refine zH [(3,.lst .ro 1 (zE gone)),(4,U.box 0 0),(6,U.box 1 0),(9,.lst .ro 1 (zE X)),(33,U.bool !Bool.true)] ([SB.box [.lst .ro 1 (zE (Ln.slots l)),.int .i64 (Ln.left l),.int .i64 (Ln.right l),.int .i64 (Ln.run l)],SB.box [.int .i64 n0,.int .i64 n1]]) (.n5 rfl) rfl fun fr=>?_
   refine k_cF rfl rfl ?_
   refine zN (k_seq (yu [.plain,.read true,.read false,.plain,.read true,.plain,.plain,.plain] (by kernel_rfl) (by kernel_rfl) (by kernel_rfl) ?_))
   refine zD (wC rfl ty36 rfl rfl (by omega) (by omega) cl3 (zB rfl)) ?_
   refine zc rfl (kA sh3 rfl (zB rfl)) (zFu rfl (q48a) (.int _ _) (.lrefl _) ?_)
   refine zD (wC rfl ty36 rfl rfl (by omega) (by omega) cl3 (zB rfl)) ?_
   refine zc rfl (kA sh3 rfl (zB rfl)) (zD (zO rfl (q48b) (.lrefl _) (zB rfl)) ?_)
   refine zD (zC rfl (zB rfl)) ?_
   refine zD (zC rfl (zB rfl)) ?_
   refine zAB ?_
   refine kQ (zA rfl (zA rfl (zO rfl (q45) (.lrefl _) (zC rfl (zB ?_)))))
   refine zH [(3,.lst .ro 1 (zE gone)),(4,U.box 0 0),(10,.int .i64 w),(11,.int .i64 m),(12,.lst .ro 1 (zE A))] ([SB.box [.lst .ro 1 (zE (Ln.slots l)),.int .i64 (Ln.left l),.int .i64 (Ln.right l),.int .i64 (Ln.run l)],SB.box [.int .i64 n0,.int .i64 n1]]) (.n5 rfl) rfl fun fr=>?_
   refine kQ (zC rfl (zC rfl (zB (k_seq (kQ (zC rfl (zB (zI ?_))))))))
   refine yp (fun kk s3=>∃i:Nat,kk+i=A.length∧s3.st=[.box l.cs,.box [.int .i64 n0,.int .i64 n1]]∧Holds s3 [(3,.lst .ro 1 (zE gone)),(4,.box 0 0),(10,.int .i64 w),(11,.int .i64 m),(12,.lst .ro 1 (zE A)),(13,accI (los m gone A i).1),(14,accI (los m gone A i).2),(15,.int .i64 i)]) (fun kk s3 hJ=>?_) A.length _ ⟨0,rfl,rfl,.c4 rfl rfl rfl rfl (.n4 rfl)⟩
   obtain⟨i,hk,hst3,hs3⟩:=hJ
   by_cases hin:i<A.length
   ·obtain⟨x,hx⟩:∃x,A[i]? =some x:=⟨A[i],List.getElem?_eq_getElem hin⟩
    have hax:at' A i=x:=by unfold at';rw[hx];rfl
    have hyes:=los_yes (m:=m) (gone:=gone) (A:=A) (i:=i)
    have hno:=los_no (m:=m) (gone:=gone) (A:=A) (i:=i)
    have hli:=hll i
    have q52:=ret52 (orc:=orc) hi gone i
    have q48:=ret48 (orc:=orc) hi (nthI gone i) 3 (by decide)
    rw[hax]at hyes hno
    generalize zCH (nthI gone i) 3=v at*
    generalize (los m gone A i).1=H at*
    generalize (los m gone A i).2=O at*
    refine zH _ _ hs3 hst3 fun fr3=>?_
    refine k_seq (kQ (zA rfl (zA rfl (zh rfl ty22 rfl (List.length_map _) ?_))))
    refine kp rfl (zB (k_cT rfl (kF (by omega)) (zN (k_seq (zI ?_)))))
    refine k_cut (fun s5=>s5.st=[.box l.cs,.box [.int .i64 n0,.int .i64 n1]]∧Holds s5 [(3,.lst .ro 1 (zE gone)),(4,.box 0 0),(10,.int .i64 w),(11,.int .i64 m),(12,.lst .ro 1 (zE A)),(13,accI H),(14,accI O),(15,.int .i64 i),(60,.bool (decide ((O.length:Int)<m)&&decide (v=0)))]) ?_ ?_
    ·by_cases c1:(O.length:Int)<m
     ·rw[kF c1,Bool.true_and]
      cases O with
      |nil=>
       refine k_region (zA rfl (zh rfl ty22 rfl rfl ?_))
       refine zA rfl (kp rfl (zA rfl (kh rfl (kF (by omega)) ?_)))
       refine zA rfl (kh rfl (kF (by omega)) ?_)
       refine zA rfl (kh rfl (kF (by omega)) ?_)
       refine zO rfl (q52) (.lrefl _) (kh rfl (kF (by omega)) ?_)
       refine zO rfl (q48) (.lrefl _) (kh rfl (kF (by omega)) ?_)
       refine ks rfl (zu rfl rfl (kF (by omega)) ?_)
       refine zB ?_
       exact⟨rfl,rfl,.c4 rfl rfl rfl rfl (.n5 rfl)⟩
      |cons y O=>
       refine k_region (zA rfl (zh rfl ty22 rfl (List.length_map _) ?_))
       refine zA rfl (kp rfl (zA rfl (kh rfl (kF (by omega)) ?_)))
       refine zA rfl (kh rfl (kF (by omega)) ?_)
       refine zA rfl (kh rfl (kF (by omega)) ?_)
       refine zO rfl (q52) (.lrefl _) (kh rfl (kF (by omega)) ?_)
       refine zO rfl (q48) (.lrefl _) (kh rfl (kF (by omega)) ?_)
       refine ks rfl (zu rfl rfl (kF (by omega)) ?_)
       refine zB ?_
       exact⟨rfl,rfl,.c4 rfl rfl rfl rfl (.n5 rfl)⟩
     ·rw[kG c1,Bool.false_and]
      cases O with
      |nil=>
       refine k_region (zA rfl (zh rfl ty22 rfl rfl ?_))
       refine zA rfl (kp rfl (zA rfl (kg rfl (kG (by omega)) ?_)))
       refine kg rfl (kG (by omega)) ?_
       refine kg rfl (kG (by omega)) ?_
       refine kg rfl (kG (by omega)) ?_
       refine kg rfl (kG (by omega)) ?_
       refine yO rfl rfl (kG (by omega)) ?_
       refine zB ?_
       exact⟨rfl,rfl,.c4 rfl rfl rfl rfl (.n5 rfl)⟩
      |cons y O=>
       refine k_region (zA rfl (zh rfl ty22 rfl (List.length_map _) ?_))
       refine zA rfl (kp rfl (zA rfl (kg rfl (kG (by omega)) ?_)))
       refine kg rfl (kG (by omega)) ?_
       refine kg rfl (kG (by omega)) ?_
       refine kg rfl (kG (by omega)) ?_
       refine kg rfl (kG (by omega)) ?_
       refine yO rfl rfl (kG (by omega)) ?_
       refine zB ?_
       exact⟨rfl,rfl,.c4 rfl rfl rfl rfl (.n5 rfl)⟩
    ·rintro s5 ⟨hst5,hs5⟩
     by_cases c:(O.length:Int)<m∧v=0
     ·obtain⟨e1,e2⟩:=hyes c.1 c.2
      rw[kF c.1,kF c.2]at hs5
      cases O with
      |nil=>
       refine zH _ _ hs5 hst5 fun fr5=>?_
       refine k_cT rfl rfl ?_
       refine k_region (zA rfl (zA rfl (zA rfl (zx (u:=.int .i64 (x)) rfl ty22 rfl rfl (Int.natCast_nonneg _) (by simp[hx]) cl3 ?_))))
       refine kC sh3 rfl ?_
       refine zBA (es:=[.int .i64 x]) rfl ty22 ze3 cl3 rfl rfl rfl rfl rfl rfl rfl rfl ?_
       refine zAZ rfl wU rfl rfl (by simp) (by simp) (by simp[yL,ze,oneU]) (by simp) ?_
       refine zC rfl (zB (k_region (zA rfl ?_)))
       refine kz rfl (by unfold I64;omega) (zC rfl (zB ?_))
       exact⟨kk - 1,by omega,i+1,by omega,rfl,.c4 rfl rfl rfl rfl (.cons rfl (.cons (by rw[e1];rfl) (.cons (by rw[e2];rfl) (.n1 rfl))))⟩
      |cons y O=>
       refine zH _ _ hs5 hst5 fun fr5=>?_
       refine k_cT rfl rfl ?_
       refine k_region (zA rfl (zA rfl (zA rfl (zx (u:=.int .i64 (x)) rfl ty22 rfl rfl (Int.natCast_nonneg _) (by simp[hx]) cl3 ?_))))
       refine kC sh3 rfl ?_
       refine zBA (es:=[.int .i64 x]) rfl ty22 ze3 cl3 rfl rfl rfl rfl rfl rfl rfl rfl ?_
       refine zAY 14 rfl wU rfl rfl rfl (by simp) (by simp) (by simp[yL,ze,oneU]) (by simp at hli ⊢;omega) ?_
       refine zC rfl (zB (k_region (zA rfl ?_)))
       refine kz rfl (by unfold I64;omega) (zC rfl (zB ?_))
       exact⟨kk - 1,by omega,i+1,by omega,rfl,.c4 rfl rfl rfl rfl (.cons rfl (.cons (by rw[e1];rfl) (.cons (by rw[e2,zAg];rfl) (.n1 rfl))))⟩
     ·obtain⟨e1,e2⟩:=hno c
      rw[show(decide ((O.length:Int)<m)&&decide (v=0))=false by rw[←Bool.not_eq_true,Bool.and_eq_true,decide_eq_true_eq,decide_eq_true_eq];exact c]at hs5
      cases H with
      |nil=>
       refine zH _ _ hs5 hst5 fun fr5=>?_
       refine k_cF rfl rfl ?_
       refine k_region (zA rfl (zA rfl (zA rfl (zx (u:=.int .i64 (x)) rfl ty22 rfl rfl (Int.natCast_nonneg _) (by simp[hx]) cl3 ?_))))
       refine kC sh3 rfl ?_
       refine zBA (es:=[.int .i64 x]) rfl ty22 ze3 cl3 rfl rfl rfl rfl rfl rfl rfl rfl ?_
       refine zAZ rfl wU rfl rfl (by simp) (by simp) (by simp[yL,ze,oneU]) (by simp) ?_
       refine zC rfl (zB (k_region (zA rfl ?_)))
       refine kz rfl (by unfold I64;omega) (zC rfl (zB ?_))
       exact⟨kk - 1,by omega,i+1,by omega,rfl,.c4 rfl rfl rfl rfl (.cons rfl (.cons (by rw[e1];rfl) (.cons (by rw[e2];rfl) (.n1 rfl))))⟩
      |cons y H=>
       refine zH _ _ hs5 hst5 fun fr5=>?_
       refine k_cF rfl rfl ?_
       refine k_region (zA rfl (zA rfl (zA rfl (zx (u:=.int .i64 (x)) rfl ty22 rfl rfl (Int.natCast_nonneg _) (by simp[hx]) cl3 ?_))))
       refine kC sh3 rfl ?_
       refine zBA (es:=[.int .i64 x]) rfl ty22 ze3 cl3 rfl rfl rfl rfl rfl rfl rfl rfl ?_
       refine zAY 13 rfl wU rfl rfl rfl (by simp) (by simp) (by simp[yL,ze,oneU]) (by simp at hli ⊢;omega) ?_
       refine zC rfl (zB (k_region (zA rfl ?_)))
       refine kz rfl (by unfold I64;omega) (zC rfl (zB ?_))
       exact⟨kk - 1,by omega,i+1,by omega,rfl,.c4 rfl rfl rfl rfl (.cons rfl (.cons (by rw[e1,zAg];rfl) (.cons (by rw[e2];rfl) (.n1 rfl))))⟩
   ·have hie:i=A.length:=by omega
    subst hie
    clear hll
    generalize (los m gone A A.length).1=H at*
    generalize (los m gone A A.length).2=O at*
    refine zH _ _ hs3 hst3 fun fr3=>?_
    refine k_seq (kQ (zA rfl (zA rfl (zh rfl ty22 rfl (List.length_map _) ?_))))
    refine kp rfl (zB (k_cF rfl (kG (by omega)) (yD ?_)))
    obtain⟨tE,tF,tN,tL,tA,tO,tB,tg1,tg2⟩:=htold
    have q29:=ret29 (orc:=orc) hi l w H m
    have q31:=ret31 (orc:=orc) hi l w H
    rw[tE]at q29
    rw[tF]at q31
    have hO16:O.length≤6:=by omega
    have q51:=ret51 (orc:=orc) hi (lstN l w H:Nat) 0 O.length
    rw[zBV.2 (by omega)]at q51
    have q47a:=ret47 (orc:=orc) hi (n:=l.slots.length) (by omega) (misA l w H m)
    have q47b:=ret47 (orc:=orc) hi (n:=l.slots.length) (by omega) (misB l w H m)
    rw[tg1]at q47a
    rw[tg2]at q47b
    have hBl:=misB_len l w H m
    have q49a:=fun x=>ret49 (orc:=orc) hi O x (by omega)
    have q49b:=fun x=>ret49 (orc:=orc) hi (misA l w H m) x (by omega)
    have q49c:=fun x=>ret49 (orc:=orc) hi (misB l w H m) x (by omega)
    have q23:=ret23 (orc:=orc) hi O (by omega)
    clear tE tF tg1 tg2 hH
    generalize misA l w H m=S at*
    generalize misB l w H m=P at*
    generalize lstN l w H=LN at*
    refine kQ ?_
    refine o_weak 13 rfl (fun _=>rfl) (u:=.lst .ro 1 (zE H)) (accI_ro2 H) ?_
    refine o_weak 14 rfl (fun _=>rfl) (u:=.lst .ro 1 (zE O)) (accI_ro2 O) ?_
    refine kB sh24 rfl (zA rfl (zA rfl (zA rfl (zO rfl (q29) (.lrefl _) (zA rfl (ku rfl (ku rfl (ku rfl (zC rfl (zC rfl (zC rfl (zB (kQ (kB sh24 rfl (zA rfl ?_)))))))))))))))
    refine zA rfl (zO rfl (q31) (.lrefl _) (zA rfl (ku rfl (ku rfl (zC rfl (zC rfl (zB ?_)))))))
    refine zH [(4,U.box 0 0),(14,.lst .ro 1 (zE O)),(16,.lst .ro 1 (zE S)),(17,.lst .ro 1 (zE P)),(18,.int .i64 0),(19,.int .i64 ↑LN),(20,.int .i64 0)] ([SB.box (Ln.cs l),SB.box [.int .i64 n0,.int .i64 n1]]) (.n7 rfl) rfl fun fr=>?_
    refine k_seq (kQ (zA rfl (kr rfl (zA rfl (kf rfl (zA rfl (kf rfl (kr rfl (kD rfl ?_)))))))))
    refine zA rfl (kf rfl (zA rfl (kf rfl (zA rfl ?_))))
    refine zZ [(4,U.box 0 0),(14,.lst .ro 1 (zE O)),(16,.lst .ro 1 (zE S)),(17,.lst .ro 1 (zE P)),(97,U.bool (decide ((0:Int)≠(0:Int)))),(98,.int .i64 ↑LN),(99,.lst .ro 1 (zE O))] [] ([SB.box (Ln.cs l),SB.box [.int .i64 n0,.int .i64 n1]]) (.n7 rfl) rfl rfl fun fr=>?_
    refine kf rfl ?_
    refine zZ [(4,U.box 0 0),(14,.lst .ro 1 (zE O)),(16,.lst .ro 1 (zE S)),(17,.lst .ro 1 (zE P)),(97,U.bool (decide ((0:Int)≠(0:Int)))),(98,.int .i64 ↑LN),(99,.lst .ro 1 (zE O))] [] ([SB.box (Ln.cs l),SB.box [.int .i64 n0,.int .i64 n1]]) (.n7 rfl) rfl rfl fun fr=>?_
    refine zh rfl ty22 rfl (List.length_map _) ?_
    refine kf rfl (zO rfl (q51) (.lrefl _) (kf rfl (yc rfl rfl (kD rfl ?_))))
    refine zA rfl (kf rfl (zA rfl (kf rfl (zh rfl ty22 rfl (List.length_map _) ?_))))
    refine kf rfl (zA rfl (kf rfl (zh rfl ty22 rfl (List.length_map _) ?_)))
    refine zZ [(4,U.box 0 0),(14,.lst .ro 1 (zE O)),(16,.lst .ro 1 (zE S)),(17,.lst .ro 1 (zE P)),(104,U.bool !Bool.true),(106,.int .i64 ↑(List.length S)),(108,.int .i64 ↑(List.length O))] [] ([SB.box (Ln.cs l),SB.box [.int .i64 n0,.int .i64 n1]]) (.n7 rfl) rfl rfl fun fr=>?_
    refine kf rfl ?_
    refine zZ [(4,U.box 0 0),(14,.lst .ro 1 (zE O)),(16,.lst .ro 1 (zE S)),(17,.lst .ro 1 (zE P)),(104,U.bool !Bool.true),(106,.int .i64 ↑(List.length S)),(108,.int .i64 ↑(List.length O))] [] ([SB.box (Ln.cs l),SB.box [.int .i64 n0,.int .i64 n1]]) (.n7 rfl) rfl rfl fun fr=>?_
    refine o_gtr rfl rfl rfl (kD rfl ?_)
    refine zB (k_cF rfl (kG (by omega)) (zN (k_seq (kQ (zC rfl (zB ?_))))))
    refine zH [(4,U.box 0 0),(14,.lst .ro 1 (zE O)),(16,.lst .ro 1 (zE S)),(17,.lst .ro 1 (zE P)),(21,.int .i64 0)] ([SB.box (Ln.cs l),SB.box [.int .i64 n0,.int .i64 n1]]) (.n5 rfl) rfl fun fr=>?_
    refine zI ?_
    refine yp (fun kk s4=>∃j:Nat,kk+j=S.length∧s4.st=[.box l.cs,.box [.int .i64 n0,.int .i64 n1]]∧Holds s4 [(4,.box 0 0),(14,.lst .ro 1 (zE O)),(16,.lst .ro 1 (zE S)),(17,.lst .ro 1 (zE P)),(21,.int .i64 j)]) (fun kk s4 hJ=>?_) S.length _ ⟨0,rfl,rfl,.c4 rfl rfl rfl rfl (.n1 rfl)⟩
    obtain⟨j,hk4,hst4,hs4⟩:=hJ
    by_cases hj:j<S.length
    ·obtain⟨x,hx⟩:∃x,S[j]? =some x:=⟨S[j],List.getElem?_eq_getElem hj⟩
     have hxm:=tA x (List.mem_of_getElem? hx)
     have q49:=q49a x
     have hix:=idx_mem O x 0
     rw[kF hxm]at hix
     have hix:=of_decide_eq_true hix
     clear q49a q49b q49c
     generalize idxI O x 0=ix at*
     refine zH _ _ hs4 hst4 fun fr4=>?_
     refine k_seq (kQ (zA rfl (zA rfl (zh rfl ty22 rfl (List.length_map _) ?_))))
     refine kp rfl (zB (k_cT rfl (kF (by omega)) (zN (k_seq (zI (kQ (zA rfl (zA rfl (zA rfl (zx (u:=.int .i64 (x)) rfl ty22 rfl rfl (Int.natCast_nonneg _) (by simp[hx]) cl3 ?_))))))))))
     refine kC sh3 rfl ?_
     refine zO rfl (q49) (.lrefl _) (kp rfl (zB (k_cF rfl (kG (by omega)) (zN (k_region (zA rfl ?_))))))
     refine kz rfl (by unfold I64;omega) (zC rfl (zB ?_))
     exact⟨kk - 1,by omega,j+1,by omega,rfl,.c4 rfl rfl rfl rfl (.n1 rfl)⟩
    ·refine zH _ _ hs4 hst4 fun fr4=>?_
     refine k_seq (kQ (zA rfl (zA rfl (zh rfl ty22 rfl (List.length_map _) ?_))))
     refine kp rfl (zB (k_cF rfl (kG (by omega)) (yD (k_seq (kQ (zC rfl (zB (zI ?_))))))))
     refine yp (fun mm s5=>∃j:Nat,mm+j=O.length∧s5.st=[.box l.cs,.box [.int .i64 n0,.int .i64 n1]]∧Holds s5 [(4,.box 0 0),(14,.lst .ro 1 (zE O)),(16,.lst .ro 1 (zE S)),(17,.lst .ro 1 (zE P)),(22,.int .i64 j)]) (fun mm s5 hJ=>?_) O.length _ ⟨0,rfl,rfl,.c4 rfl rfl rfl rfl (.n1 rfl)⟩
     obtain⟨j,hm5,hst5,hs5⟩:=hJ
     by_cases hj:j<O.length
     ·obtain⟨x,hx⟩:∃x,O[j]? =some x:=⟨O[j],List.getElem?_eq_getElem hj⟩
      have hxm:=tO x (List.mem_of_getElem? hx)
      have q49y:=q49b x
      have q49z:=q49c x
      have hix:=idx_mem S x 0
      have hiy:=idx_mem P x 0
      clear q49a q49b q49c
      by_cases c:x∈S
      ·rw[kF c]at hix
       have hix:=of_decide_eq_true hix
       generalize idxI S x 0=ix at*
       refine zH _ _ hs5 hst5 fun fr5=>?_
       refine k_seq (kQ (zA rfl (zA rfl (zh rfl ty22 rfl (List.length_map _) ?_))))
       refine kp rfl (zB (k_cT rfl (kF (by omega)) (zN (k_seq (zI (kQ (zA rfl (zA rfl (zA rfl (zx (u:=.int .i64 (x)) rfl ty22 rfl rfl (Int.natCast_nonneg _) (by simp[hx]) cl3 ?_))))))))))
       refine kC sh3 rfl ?_
       refine zO rfl (q49y) (.lrefl _) (kp rfl (zA rfl (kg rfl (kG (by omega)) ?_)))
       refine zZ [(4,U.box 0 0),(14,.lst .ro 1 (zE O)),(16,.lst .ro 1 (zE S)),(17,.lst .ro 1 (zE P)),(22,.int .i64 ↑j),(137,U.bool (decide (ix<(0:Int))))] [] ([SB.box (Ln.cs l),SB.box [.int .i64 n0,.int .i64 n1]]) (.n6 rfl) rfl rfl fun fr=>?_
       refine kg rfl (kG (by omega)) ?_
       refine kg rfl (kG (by omega)) ?_
       refine kg rfl (kG (by omega)) ?_
       refine kg rfl (kG (by omega)) ?_
       refine kg rfl (kG (by omega)) ?_
       refine kg rfl (kG (by omega)) ?_
       refine yO rfl rfl (kG (by omega)) ?_
       refine zB ?_
       refine zH [(4,U.box 0 0),(14,.lst .ro 1 (zE O)),(16,.lst .ro 1 (zE S)),(17,.lst .ro 1 (zE P)),(22,.int .i64 ↑j),(145,.bool false)] ([SB.box (Ln.cs l),SB.box [.int .i64 n0,.int .i64 n1]]) (.n6 rfl) rfl fun fr=>?_
       refine k_cF rfl rfl ?_
       refine zN (k_region (zA rfl ?_))
       refine kz rfl (by unfold I64;omega) (zC rfl (zB ?_))
       exact⟨mm - 1,by omega,j+1,by omega,rfl,.c4 rfl rfl rfl rfl (.n1 rfl)⟩
      ·rw[kG c]at hix
       have hix:=of_decide_eq_false hix
       have cP:x∈P:=hxm.resolve_left c
       rw[kF cP]at hiy
       have hiy:=of_decide_eq_true hiy
       generalize idxI S x 0=ix at*
       generalize idxI P x 0=iy at*
       refine zH _ _ hs5 hst5 fun fr5=>?_
       refine k_seq (kQ (zA rfl (zA rfl (zh rfl ty22 rfl (List.length_map _) ?_))))
       refine kp rfl (zB (k_cT rfl (kF (by omega)) (zN (k_seq (zI (kQ (zA rfl (zA rfl (zA rfl (zx (u:=.int .i64 (x)) rfl ty22 rfl rfl (Int.natCast_nonneg _) (by simp[hx]) cl3 ?_))))))))))
       refine kC sh3 rfl ?_
       refine zO rfl (q49y) (.lrefl _) (kp rfl (zA rfl (kh rfl (kF (by omega)) ?_)))
       refine zA rfl ?_
       refine zZ [(4,U.box 0 0),(14,.lst .ro 1 (zE O)),(16,.lst .ro 1 (zE S)),(17,.lst .ro 1 (zE P)),(22,.int .i64 ↑j),(137,U.bool (decide (ix<(0:Int)))),(138,.lst .ro 1 (zE P))] [] ([SB.box (Ln.cs l),SB.box [.int .i64 n0,.int .i64 n1]]) (.n7 rfl) rfl rfl fun fr=>?_
       refine kh rfl (kF (by omega)) ?_
       refine zZ [(4,U.box 0 0),(14,.lst .ro 1 (zE O)),(16,.lst .ro 1 (zE S)),(17,.lst .ro 1 (zE P)),(22,.int .i64 ↑j),(137,U.bool (decide (ix<(0:Int)))),(138,.lst .ro 1 (zE P))] [] ([SB.box (Ln.cs l),SB.box [.int .i64 n0,.int .i64 n1]]) (.n7 rfl) rfl rfl fun fr=>?_
       refine zA rfl (kh rfl (kF (by omega)) ?_)
       refine zA rfl (kh rfl (kF (by omega)) ?_)
       refine zx (u:=.int .i64 (x)) rfl ty22 rfl rfl (Int.natCast_nonneg _) (by simp[hx]) cl3 ?_
       refine kh rfl (kF (by omega)) ?_
       refine kC sh3 rfl ?_
       refine kh rfl (kF (by omega)) ?_
       refine zO rfl (q49z) (.lrefl _) (kh rfl (kF (by omega)) ?_)
       refine kp rfl (zu rfl rfl (kF (by omega)) ?_)
       refine zB ?_
       refine zH [(4,U.box 0 0),(14,.lst .ro 1 (zE O)),(16,.lst .ro 1 (zE S)),(17,.lst .ro 1 (zE P)),(22,.int .i64 ↑j),(145,U.bool (decide (iy<(0:Int))))] ([SB.box (Ln.cs l),SB.box [.int .i64 n0,.int .i64 n1]]) (.n6 rfl) rfl fun fr=>?_
       refine k_cF rfl (kG (by omega)) (zN (k_region (zA rfl ?_)))
       refine kz rfl (by unfold I64;omega) (zC rfl (zB ?_))
       exact⟨mm - 1,by omega,j+1,by omega,rfl,.c4 rfl rfl rfl rfl (.n1 rfl)⟩
     ·clear q49a q49b q49c
      cases P with
      |nil=>
       have e:=tB rfl
       subst e
       refine zH _ _ hs5 hst5 fun fr5=>?_
       refine k_seq (kQ (zA rfl (zA rfl (zh rfl ty22 rfl (List.length_map _) ?_))))
       refine kp rfl (zB (k_cF rfl (kG (by omega)) (yD (k_seq (kQ (zA rfl (zh rfl ty22 rfl (List.length_map _) ?_)))))))
       refine ks rfl (zA rfl (kf rfl (zA rfl (kf rfl (zA rfl (kf rfl (zO rfl (q23) (.lrefl _) (kf rfl (yc rfl rfl (kE rfl ?_))))))))))
       refine zB ?_
       refine zH [(4,U.box 0 0),(16,.lst .ro 1 (zE S)),(17,.lst .ro 1 (zE [])),(154,U.bool !Bool.true)] ([SB.box (Ln.cs l),SB.box [.int .i64 n0,.int .i64 n1]]) (.n4 rfl) rfl fun fr=>?_
       refine k_cF rfl rfl ?_
       refine zN (kQ (zA rfl (kw rfl zR (kA sh22 rfl (zh rfl ty22 rfl (List.length_map _) ?_)))))
       refine zO rfl (q47a) (.lrefl _) (zA rfl (kf rfl (zA rfl (kf rfl (kw rfl zR (kf rfl (kA sh22 rfl ?_)))))))
       refine zZ [(160,.bool true),(161,.lst .ro 1 (zE [])),(163,.lst .ro 1 (zE (Ln.slots l)))] [] ([SB.box (Ln.cs l),SB.box [.int .i64 n0,.int .i64 n1]]) (.n3 rfl) rfl rfl fun fr=>?_
       refine kf rfl ?_
       refine zZ [(160,.bool true),(161,.lst .ro 1 (zE [])),(163,.lst .ro 1 (zE (Ln.slots l)))] [] ([SB.box (Ln.cs l),SB.box [.int .i64 n0,.int .i64 n1]]) (.n3 rfl) rfl rfl fun fr=>?_
       refine zh rfl ty22 rfl (List.length_map _) ?_
       refine kf rfl (zO rfl (q47b) (.lrefl _) (kE rfl ?_))
       refine zA rfl (kf rfl (zO rfl (r26) (.lrefl _) (kE rfl ?_)))
       refine zC rfl (zB (zV ?_))
       refine⟨.inr rfl,_,.cons _ _ _ _ (.tmp 8) .nil,?_⟩
       exact .refl _
       done
      |cons y P=>
       have kc:decide ((((y::P).length:Nat):Int)=0)=false:=kG (by rw[List.length_cons];omega)
       refine zH _ _ hs5 hst5 fun fr5=>?_
       refine k_seq (kQ (zA rfl (zA rfl (zh rfl ty22 rfl (List.length_map _) ?_))))
       refine kp rfl (zB (k_cF rfl (kG (by omega)) (yD (k_seq (kQ (zA rfl (zh rfl ty22 rfl (List.length_map _) ?_)))))))
       refine ks rfl (zA rfl (kg rfl (by assumption) (kg rfl (by assumption) (kg rfl (by assumption) (kg rfl (by assumption) (kD rfl ?_))))))
       refine zB ?_
       refine zH [(4,U.box 0 0),(16,.lst .ro 1 (zE S)),(17,.lst .ro 1 (zE (y::P))),(154,.bool false)] ([SB.box (Ln.cs l),SB.box [.int .i64 n0,.int .i64 n1]]) (.n4 rfl) rfl fun fr=>?_
       refine k_cF rfl rfl ?_
       refine zN (kQ (zA rfl (kw rfl zR (kA sh22 rfl (zh rfl ty22 rfl (List.length_map _) ?_)))))
       refine zO rfl (q47a) (.lrefl _) (zA rfl (kf rfl (zA rfl (kf rfl (kw rfl zR (kf rfl (kA sh22 rfl ?_)))))))
       refine zZ [(160,.bool true),(161,.lst .ro 1 (zE (y::P))),(163,.lst .ro 1 (zE (Ln.slots l)))] [] ([SB.box (Ln.cs l),SB.box [.int .i64 n0,.int .i64 n1]]) (.n3 rfl) rfl rfl fun fr=>?_
       refine kf rfl ?_
       refine zZ [(160,.bool true),(161,.lst .ro 1 (zE (y::P))),(163,.lst .ro 1 (zE (Ln.slots l)))] [] ([SB.box (Ln.cs l),SB.box [.int .i64 n0,.int .i64 n1]]) (.n3 rfl) rfl rfl fun fr=>?_
       refine zh rfl ty22 rfl (List.length_map _) ?_
       refine kf rfl (zO rfl (q47b) (.lrefl _) (kE rfl ?_))
       refine zA rfl (kf rfl (zO rfl (r26) (.lrefl _) (kE rfl ?_)))
       refine zC rfl (zB (zV ?_))
       refine⟨.inr rfl,_,.cons _ _ _ _ (.tmp 8) .nil,?_⟩
       exact .refl _
       done
end
end Go.Proofs.YthhbfbmfhldbaaaDoor.locks
