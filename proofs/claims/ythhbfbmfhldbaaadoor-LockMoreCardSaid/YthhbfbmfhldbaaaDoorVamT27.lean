import Derived.Test.YthhbfbmfhldbaaaDoorVamT26
set_option linter.unusedVariables false
set_option linter.unusedSimpArgs false
set_option linter.constructorNameAsVariable false
namespace Go.Proofs.YthhbfbmfhldbaaaDoor.locks
open Vam
section
variable {l:Ln}
theorem few_mono{w:Int}{H:List Int}{m m2:Int}(h:m≤m2){p:List Int}(hp:p∈fewL l w H m):p∈fewL l w H m2:=by
 obtain⟨h1,h2⟩:=List.mem_filter.1 hp
 refine List.mem_filter.2 ⟨h1,?_⟩
 unfold fewB at h2 ⊢
 have:=of_decide_eq_true h2
 exact kF (by omega)
theorem zFX(hv:yM l=true){w:Int}{H:List Int}(hr:yU l w H=true){m:Int}(hm:0≤m∧m≤6):misE l w H m=if(fewL l w H m).length=0 then 4 else 0:=by
 unfold misE
 rw[if_pos hv,if_pos (by rw[hr,zBh.2 hm];rfl)]
theorem zCP(hv:yM l=true){w:Int}{H:List Int}(hr:yU l w H=true):lstE l w H=if(leO w H (fitL l w H)).isSome=true then 0 else 4:=by
 unfold lstE
 rw[if_pos hv,if_pos hr]
theorem few_least(hv:yM l=true){w:Int}{H:List Int}(hr:yU l w H=true){m:Int}(hm:0≤m∧m≤6):misE l w H m=0↔lstE l w H=0∧(lstN l w H:Int)≤m:=by
 rw[zFX hv hr hm]
 have hL:=zCP hv (w:=w) (H:=H) hr
 rcases le_spec w H (fitL l w H)with ⟨e,e2⟩|⟨f,e,⟨p,hp,hpf⟩,h2⟩
 ·rw[e2]at hL
  have hL:lstE l w H=4:=hL
  have:fewL l w H m=[]:=by unfold fewL;rw[e];rfl
  rw[this,hL]
  simp
 ·rw[e]at hL
  have hL:lstE l w H=0:=hL
  have hN:lstN l w H=f:=by unfold lstN;rw[if_pos hL,e];rfl
  rw[hL,hN]
  constructor
  ·intro h
   split at h
   ·cases h
   ·next hne=>
    obtain⟨q,hq⟩:=List.exists_mem_of_length_pos (show 0<(fewL l w H m).length by omega)
    obtain⟨h3,h4⟩:=List.mem_filter.1 hq
    unfold fewB at h4
    have h4:=of_decide_eq_true h4
    have:=h2 q h3
    exact⟨rfl,by omega⟩
  ·rintro⟨_,h⟩
   rw[if_neg]
   have:p∈fewL l w H m:=List.mem_filter.2 ⟨hp,by unfold fewB;exact kF (by omega)⟩
   have:=List.length_pos_of_mem this
   omega
theorem mis_lists{w:Int}{H:List Int}{m:Int}(h:misE l w H m=0):misA l w H m=memP (allF (fewL l w H m).length (lcnt w H (fewL l w H m))) 16∧misB l w H m=memP (somF (fewL l w H m).length (lcnt w H (fewL l w H m))) 16:=by
 unfold misA misB
 rw[if_pos h,if_pos h];exact⟨rfl,rfl⟩
theorem more_lost{w:Int}{H:List Int}{m m2:Int}(hmm:m≤m2)(h1:misE l w H m=0)(h2:misE l w H m2=0):(∀x∈misA l w H m2,x∈misA l w H m)∧∀x,(x∈misA l w H m∨x∈misB l w H m)→x∈misA l w H m2∨x∈misB l w H m2:=by
 obtain⟨a1,b1⟩:=mis_lists h1
 obtain⟨a2,b2⟩:=mis_lists h2
 have hpos:0<(fewL l w H m).length:=by
  rcases Nat.eq_zero_or_pos (fewL l w H m).length with e|e
  ·exfalso
   unfold misE at h1
   by_cases v:yM l=true
   ·rw[if_pos v]at h1
    by_cases r:(yU l w H&&inS 0 6 m)=true
    ·rw[if_pos r,if_pos e]at h1;cases h1
    ·rw[if_neg r]at h1;cases h1
   ·rw[if_neg v]at h1;cases h1
  ·exact e
 obtain⟨q,hq⟩:=List.exists_mem_of_length_pos hpos
 refine⟨fun x hx=>?_,fun x hx=>?_⟩
 ·rw[a2]at hx
  obtain⟨i,i1,i2,i3⟩:=zAF.1 hx
  rw[a1]
  exact zAF.2 ⟨i,i1,i2,all_iff.2 fun p hp=>all_iff.1 i3 p (few_mono hmm hp)⟩
 ·have hex:∃i:Nat,i<16∧x=i∧∃p∈fewL l w H m,losF w H p i=true:=by
   rcases hx with hx|hx
   ·rw[a1]at hx
    obtain⟨i,i1,i2,i3⟩:=zAF.1 hx
    exact⟨i,i1,i2,q,hq,all_iff.1 i3 q hq⟩
   ·rw[b1]at hx
    obtain⟨i,i1,i2,i3⟩:=zAF.1 hx
    exact⟨i,i1,i2,(som_iff.1 i3).1⟩
  obtain⟨i,i1,i2,p,hp,hk⟩:=hex
  by_cases c:∀p∈fewL l w H m2,losF w H p i=true
  ·left;rw[a2];exact zAF.2 ⟨i,i1,i2,all_iff.2 c⟩
  ·right;rw[b2];exact zAF.2 ⟨i,i1,i2,som_iff.2 ⟨⟨p,few_mono hmm hp,hk⟩,c⟩⟩
def morF(H:List Int)(a:Int)(k:Nat):Bool:=decide ((k:Int)=a)||decide ((k:Int)∈H)
def morL(l:Ln)(H:List Int)(a:Int):List Int:=memP (morF H a) l.slots.length
theorem mor_right{w:Int}(hw:w=0∨w=1)(H:List Int)(a:Int):yU l w (morL l H a)=true:=zBR.2 ⟨hw,memP_pair _ _,fun _ hx=>memP_rg hx⟩
theorem mor_mem{w:Int}{H:List Int}(hr:yU l w H=true){a:Int}(ha:0≤a∧a<l.slots.length)(x:Int):x∈morL l H a↔x=a∨x∈H:=by
 unfold morL
 rw[zAF]
 obtain⟨_,_,hb⟩:=zBR.1 hr
 constructor
 ·rintro⟨i,h1,rfl,h3⟩
  unfold morF at h3
  rw[Bool.or_eq_true,decide_eq_true_eq,decide_eq_true_eq]at h3
  exact h3
 ·intro h
  have hx:0≤x∧x<l.slots.length:=by
   rcases h with rfl|h
   ·exact ha
   ·exact hb x h
  refine⟨x.toNat,by omega,by omega,?_⟩
  unfold morF
  rw[show((x.toNat:Nat):Int)=x by omega,Bool.or_eq_true,decide_eq_true_eq,decide_eq_true_eq]
  exact h
theorem fit_iff{w:Int}(hw1:w≠ -1){H:List Int}(hH:∀x∈H,0≤x∧x<16){p:List Int}:fitB w H p=true↔ ∀x∈H,at' p x.toNat=w:=by
 unfold fitB
 constructor
 ·intro h x hx
  have hx2:=hH x hx
  by_cases c:at' p x.toNat=w
  ·exact c
  ·have:(b16 (woF (onF H) (plF p w))).any id=true:=by
    refine(any16 _).2 ⟨x.toNat,by omega,?_⟩
    unfold woF onF plF
    rw[show((x.toNat:Nat):Int)=x by omega,kF hx,kG c];rfl
   rw[this]at h;cases h
 ·intro h
  cases c:(b16 (woF (onF H) (plF p w))).any id with
  |false=>rfl
  |true=>
   obtain⟨k,hk,hc⟩:=(any16 _).1 c
   unfold woF onF plF at hc
   rw[Bool.and_eq_true]at hc
   have:=h k (of_decide_eq_true hc.1)
   rw[show((k:Int)).toNat=k by omega]at this
   rw[kF this]at hc
   cases hc.2
theorem memP_one{P Q:Nat→Bool}{a:Nat}:∀n:Nat,a<n→P a=true→(∀k,k<n→Q k=(P k&& !decide (k=a)))→(memP P n).length=(memP Q n).length+1:=by
 intro n
 induction n with
 |zero=>intro h;omega
 |succ n ih=>
  intro ha hp hq
  rw[zCO,zCO,List.length_append,List.length_append]
  have hqn:=hq n (by omega)
  by_cases c:a=n
  ·subst c
   rw[kF rfl,Bool.not_true,Bool.and_false]at hqn
   rw[hp,hqn,if_pos rfl,if_neg (by decide)]
   have e:memP P a=memP Q a:=memP_congr fun i hi=>by rw[hq i (by omega),kG (by omega)];simp
   rw[e];rfl
  ·rw[kG (fun e=>c e.symm),Bool.not_false,Bool.and_true]at hqn
   rw[hqn,ih (by omega) hp fun k hk=>hq k (by omega)]
   omega
theorem more_heard(hv:yM l=true){w:Int}(hw:w=0∨w=1){H:List Int}(hr:yU l w H=true){a:Int}(ha:0≤a∧a<l.slots.length)(hna:a ∉ H):lstE l w (morL l H a)=0→lstE l w H=0∧(lstN l w H:Int) - 1≤lstN l w (morL l H a):=by
 intro hE
 have h:=zAL.1 hv
 have hn:=h.n
 have hw1:w≠ -1:=by omega
 have hmem:=mor_mem (l:=l) hr ha
 obtain⟨_,_,hb⟩:=zBR.1 hr
 have hL:=zCP hv (mor_right (l:=l) hw H a)
 rcases le_spec w (morL l H a) (fitL l w (morL l H a))with ⟨_,e2⟩|⟨f,e,⟨p,hp,hpf⟩,_⟩
 ·rw[e2]at hL
  have hL:lstE l w (morL l H a)=4:=hL
  rw[hE]at hL;cases hL
 ·have hN:lstN l w (morL l H a)=f:=by unfold lstN;rw[if_pos hE,e];rfl
  obtain⟨hps,hpf2⟩:=List.mem_filter.1 hp
  have hfit:=(fit_iff hw1 (H:=morL l H a) (fun x hx=>by
   rcases(hmem x).1 hx with rfl|hx
   ·omega
   ·have:=hb x hx;omega)).1 hpf2
  have hpH:p∈fitL l w H:=List.mem_filter.2 ⟨hps,(fit_iff hw1 (fun x hx=>by have:=hb x hx;omega)).2 fun x hx=>hfit x ((hmem x).2 (.inr hx))⟩
  have hpa:=hfit a ((hmem a).2 (.inl rfl))
  have hmany:zAW w H p=zAW w (morL l H a) p+1:=by
   unfold zAW
   refine memP_one (a:=a.toNat) 16 (by omega) ?_ fun k hk=>?_
   ·unfold losF woF plF onF
    rw[hpa,kF rfl,show((a.toNat:Nat):Int)=a by omega,kG hna];rfl
   ·unfold losF woF plF onF
    by_cases c:(k:Int)=a
    ·rw[kF ((hmem k).2 (.inl c)),kF (show k=a.toNat by omega)];simp
    ·rw[show decide ((k:Int)∈morL l H a)=decide ((k:Int)∈H)from decide_eq_decide.2 (by rw[hmem];simp[c]),kG (show ¬ k=a.toNat by omega)];simp
  have hL2:=zCP hv (w:=w) (H:=H) hr
  rcases le_spec w H (fitL l w H)with ⟨e3,_⟩|⟨g,e3,_,h4⟩
  ·rw[e3]at hpH;cases hpH
  ·rw[e3]at hL2
   have hL2:lstE l w H=0:=hL2
   have hN2:lstN l w H=g:=by unfold lstN;rw[if_pos hL2,e3];rfl
   have:=h4 p hpH
   refine⟨hL2,?_⟩
   rw[hN,hN2]
   omega
end
section
variable {is:FuncId→Bool}{orc:Known}{l:Ln}
theorem ty62:tyOf Tryd.prog 62=.array 3 3:=by kernel_rfl
noncomputable def b13:Code:=(Tryd.f13.body).getD .skip
theorem body13:bodyOf Tryd.prog 13=some (239,b13,[.tmp 6]):=by kernel_rfl
theorem pure13:pureFn Tryd.prog 13=true:=by kernel_rfl
theorem mis_out{w:Int}{H:List Int}{m:Int}(h:misE l w H m≠0):misA l w H m=[]∧misB l w H m=[]:=by
 unfold misA misB
 rw[if_neg h,if_neg h];exact⟨rfl,rfl⟩
theorem lst_out{w:Int}{H:List Int}(h:lstE l w H≠0):lstN l w H=0:=by
 unfold lstN
 rw[if_neg h]
theorem lst_le(l:Ln)(w:Int)(H:List Int):lstN l w H≤16:=by
 have e:∀(P:Prop) [Decidable P] (n:Nat),n≤16→(if P then n else 0)≤16:=fun P _ n h=>by
  by_cases c:P
  ·rw[if_pos c];exact h
  ·rw[if_neg c];exact Nat.zero_le _
 refine e _ _ ?_
 rcases le_spec w H (fitL l w H)with ⟨_,h⟩|⟨f,h,⟨p,_,hp⟩,_⟩
 ·rw[h];exact Nat.zero_le _
 ·rw[h]
  show f≤16
  rw[←hp];exact zAe _ _
theorem mis_len(l:Ln)(w:Int)(H:List Int)(m:Int):(misA l w H m).length≤16∧(misB l w H m).length≤16:=by
 refine⟨?_,misB_len l w H m⟩
 have e:∀(P:Prop) [Decidable P] (L:List Int),L.length≤16→(if P then L else []).length≤16:=fun P _ L h=>by
  by_cases c:P
  ·rw[if_pos c];exact h
  ·rw[if_neg c];exact Nat.zero_le _
 exact e _ _ (zAe _ _)
set_option maxHeartbeats 32000000 in
theorem ret13(hi:Off is)(l:Ln)(H:List Int)(n0 n1 n2:Int)(r26:RetP Tryd.prog is orc 26 [] (.bool true)):RetP Tryd.prog is orc 13 [l.u,.lst .ro 1 (zD H),.agg [.int .i64 n0,.int .i64 n1,.int .i64 n2]] (.bool true):=by
 refine yi body13 pure13 (hi 13 (by decide)) rfl rfl (zGX (zAX l 5) (yj 6 .ro (fun h=>by cases h) 1 H) (.agg _ _ (zGX (.int _ _ _) (.int _ _ _) (.int _ _ _)))) (.inl (.bool _ _)) ?_
 have q48a:=ret48 (orc:=orc) hi n0 2 (by decide)
 have q48b:=ret48 (orc:=orc) hi n1 6 (by decide)
 have hw:=turnI_b (n:=n0) (b:=2) (by decide)
 have hm:=turnI_b (n:=n1) (b:=6) (by decide)
 generalize zFC n0 2=w at*
 generalize zFC n1 6=m at*
 have hw2:w=0∨w=1:=by omega
 have q29a:=ret29 (orc:=orc) hi l w H m
 have q29b:=ret29 (orc:=orc) hi l w H (m+1)
 have q31:=ret31 (orc:=orc) hi l w H
 by_cases hvr:yM l=true∧yU l w H=true
 ·obtain⟨hv,hr⟩:=hvr
  have h:=zAL.1 hv
  have hn:=h.n
  have q41:=ret41 (orc:=orc) hi l
  rw[hv]at q41
  obtain⟨_,hHp,hHb⟩:=zBR.1 hr
  have hlen:H.length≤16:=by
   have:=zAe (fun i=>decide ((i:Int)∈H)) l.slots.length
   rw[inc_memP hHp hHb]at this
   omega
  have hf1:=few_least hv hr (m:=m) (by omega)
  have hf2:=few_least hv hr (m:=m+1) (by omega)
  have hc1:=zFX hv hr (m:=m) (by omega)
  have hc2:=zFX hv hr (m:=m+1) (by omega)
  have hc3:=zCP hv (w:=w) (H:=H) hr
  have hE1:misE l w H m=0∨misE l w H m=4:=by rw[hc1];split<;>simp
  have hE2:misE l w H (m+1)=0∨misE l w H (m+1)=4:=by rw[hc2];split<;>simp
  have hF:lstE l w H=0∨lstE l w H=4:=by rw[hc3];split<;>simp
  have hml:=more_lost (l:=l) (w:=w) (H:=H) (m:=m) (m2:=m+1) (by omega)
  obtain⟨hl1,hl2⟩:=mis_len l w H m
  obtain⟨hl3,hl4⟩:=mis_len l w H (m+1)
  have hmo:=fun a ha hna=>more_heard hv hw2 hr (a:=a) ha hna
  have hmr:=fun a=>mor_right (l:=l) hw2 H a
  have hLo:=lst_out (l:=l) (w:=w) (H:=H)
  have hLb:=lst_le l w H
  clear hc1 hc2 hc3
  generalize misE l w H m=E1 at*
  generalize misE l w H (m+1)=E2 at*
  generalize misA l w H m=A at*
  generalize misB l w H m=B at*
  generalize misA l w H (m+1)=C at*
  generalize misB l w H (m+1)=D at*
  generalize hFd:lstE l w H=F at*
  generalize hLd:lstN l w H=LN at*
  refine kQ (zx rfl rfl (zx rfl rfl (zB rfl (zC ?_))))
  refine zI [(1,.lst .ro 1 (zD H)),(3,U.box 0 0),(5,U.box 1 0)] ([SB.box [.lst .ro 1 (zD (Ln.slots l)),.int .i64 (Ln.left l),.int .i64 (Ln.right l),.int .i64 (Ln.run l)],SB.box [.int .i64 n0,.int .i64 n1,.int .i64 n2]]) (.n3 rfl) rfl fun fr=>?_
  refine k_seq (zAR [.plain,.read true,.read false,.plain,.read true,.plain,.plain,.plain] (by kernel_rfl) (by kernel_rfl) (by kernel_rfl) ?_)
  refine zE (yV rfl ty62 rfl rfl (by omega) (by omega) cl3 (zC rfl)) ?_
  refine wE rfl (kA sh3 rfl (zC rfl)) (zDE rfl (q48a) (.int _ _) (.lrefl _) ?_)
  refine zE (yV rfl ty62 rfl rfl (by omega) (by omega) cl3 (zC rfl)) ?_
  refine wE rfl (kA sh3 rfl (zC rfl)) (zE (zO rfl (q48b) (.lrefl _) (zC rfl)) ?_)
  refine zE (zB rfl (zC rfl)) ?_
  refine zE (zB rfl (zC rfl)) ?_
  refine zBk ?_
  refine kQ (kB sh24 rfl (zA rfl (zA rfl (zA rfl (zO rfl (q29a) (.lrefl _) (zA rfl (ku rfl (ku rfl (ku rfl (zB rfl (zB rfl (zB rfl (zC ?_)))))))))))))
  refine zI [(1,.lst .ro 1 (zD H)),(3,U.box 0 0),(5,U.box 1 0),(7,.int .i64 w),(8,.int .i64 m),(9,.lst .ro 1 (zD A)),(10,.lst .ro 1 (zD B)),(11,.int .i64 E1)] ([SB.box [.lst .ro 1 (zD (Ln.slots l)),.int .i64 (Ln.left l),.int .i64 (Ln.right l),.int .i64 (Ln.run l)],SB.box [.int .i64 n0,.int .i64 n1,.int .i64 n2]]) (.n8 rfl) rfl fun fr=>?_
  refine kQ (kB sh24 rfl (zA rfl (zA rfl (zA rfl ?_))))
  refine kz rfl (by unfold I64;omega) (zO rfl (q29b) (.lrefl _) (zA rfl (ku rfl (ku rfl ?_))))
  refine zT [(1,.lst .ro 1 (zD H)),(3,U.box 0 0),(5,U.box 1 0),(7,.int .i64 w),(8,.int .i64 m),(9,.lst .ro 1 (zD A)),(10,.lst .ro 1 (zD B)),(11,.int .i64 E1),(40,U.tup [.lst .ro 1 (zD C),.lst .ro 1 (zD D),.int .i64 E2]),(47,.lst .ro 1 (zD C)),(48,.lst .ro 1 (zD D))] [] ([SB.box [.lst .ro 1 (zD (Ln.slots l)),.int .i64 (Ln.left l),.int .i64 (Ln.right l),.int .i64 (Ln.run l)],SB.box [.int .i64 n0,.int .i64 n1,.int .i64 n2]]) (.c4 rfl rfl rfl rfl (.n7 rfl)) rfl rfl fun fr=>?_
  refine ku rfl (zB rfl (zB rfl (zB rfl (zC ?_))))
  refine zI [(1,.lst .ro 1 (zD H)),(3,U.box 0 0),(5,U.box 1 0),(7,.int .i64 w),(8,.int .i64 m),(9,.lst .ro 1 (zD A)),(10,.lst .ro 1 (zD B)),(11,.int .i64 E1),(12,.lst .ro 1 (zD C)),(13,.lst .ro 1 (zD D)),(14,.int .i64 E2)] ([SB.box [.lst .ro 1 (zD (Ln.slots l)),.int .i64 (Ln.left l),.int .i64 (Ln.right l),.int .i64 (Ln.run l)],SB.box [.int .i64 n0,.int .i64 n1,.int .i64 n2]]) (.c4 rfl rfl rfl rfl (.n7 rfl)) rfl fun fr=>?_
  refine kQ (kB sh24 rfl (zA rfl (zA rfl (zO rfl (q31) (.lrefl _) (zA rfl (ku rfl (ku rfl (zB rfl (zB rfl (zC ?_))))))))))
  refine k_cutR (fun s2=>s2.st=[.box l.cs,.box [.int .i64 n0,.int .i64 n1,.int .i64 n2]]∧Holds s2 [(1,.lst .ro 1 (zD H)),(3,.box 0 0),(5,.box 1 0),(7,.int .i64 w),(8,.int .i64 m),(9,.lst .ro 1 (zD A)),(10,.lst .ro 1 (zD B)),(11,.int .i64 E1),(12,.lst .ro 1 (zD C)),(13,.lst .ro 1 (zD D)),(14,.int .i64 E2),(15,.int .i64 (LN:Nat)),(16,.int .i64 F)]) ?_ ?_
  ·rcases hE1 with e|e
   ·subst e
    refine kQ (zA rfl (ks rfl (zA rfl (kf rfl (zA rfl (kf rfl (ks rfl (kD rfl ?_))))))))
    refine zC (k_cF rfl rfl ?_)
    refine zQ ?_
    exact .inl ⟨rfl,rfl,.c4 rfl rfl rfl rfl (.n9 rfl)⟩
   ·subst e
    refine kQ (zA rfl (ks rfl (zA rfl (kf rfl (zA rfl (kf rfl (ks rfl (kD rfl ?_))))))))
    refine zC (k_cF rfl rfl ?_)
    refine zQ ?_
    exact .inl ⟨rfl,rfl,.c4 rfl rfl rfl rfl (.n9 rfl)⟩
  rintro s2 ⟨hst2,hs2⟩
  refine k_cutR (fun s3=>s3.st=[.box l.cs,.box [.int .i64 n0,.int .i64 n1,.int .i64 n2]]∧Holds s3 [(1,.lst .ro 1 (zD H)),(3,.box 0 0),(5,.box 1 0),(7,.int .i64 w),(9,.lst .ro 1 (zD A)),(10,.lst .ro 1 (zD B)),(11,.int .i64 E1),(12,.lst .ro 1 (zD C)),(13,.lst .ro 1 (zD D)),(15,.int .i64 (LN:Nat)),(16,.int .i64 F)]) ?_ ?_
  ·refine zI _ _ hs2 hst2 fun fr2=>?_
   rcases hE1 with e|e
   ·subst e
    obtain⟨e,hle⟩:=hf1.1 rfl
    subst e
    have e:=hf2.2 ⟨rfl,by omega⟩
    subst e
    have k1:decide (decide ((0:Int)=0)≠decide ((LN:Int)≤m))=false:=by rw[kF (rfl:(0:Int)=0),kF hle];rfl
    have k2:decide (decide ((0:Int)=0)≠decide ((LN:Int)≤m+1))=false:=by rw[kF (rfl:(0:Int)=0),kF (show(LN:Int)≤m+1 by omega)];rfl
    refine kQ (zA rfl (kr rfl (zA rfl (ke rfl (ke rfl (kD rfl ?_))))))
    refine zA rfl (kf rfl (zA rfl (kf rfl (kr rfl ?_))))
    refine zT [(1,.lst .ro 1 (zD H)),(3,U.box 0 0),(5,U.box 1 0),(7,.int .i64 w),(8,.int .i64 m),(9,.lst .ro 1 (zD A)),(10,.lst .ro 1 (zD B)),(11,.int .i64 0),(12,.lst .ro 1 (zD C)),(13,.lst .ro 1 (zD D)),(14,.int .i64 0),(15,.int .i64 ↑LN),(16,.int .i64 0),(98,.bool false),(100,U.bool (decide ((0:Int)≠(0:Int))))] [] ([SB.box (Ln.cs l),SB.box [.int .i64 n0,.int .i64 n1,.int .i64 n2]]) (.c4 rfl rfl rfl rfl (.c4 rfl rfl rfl rfl (.n7 rfl))) rfl rfl fun fr=>?_
    refine kf rfl ?_
    refine zT [(1,.lst .ro 1 (zD H)),(3,U.box 0 0),(5,U.box 1 0),(7,.int .i64 w),(8,.int .i64 m),(9,.lst .ro 1 (zD A)),(10,.lst .ro 1 (zD B)),(11,.int .i64 0),(12,.lst .ro 1 (zD C)),(13,.lst .ro 1 (zD D)),(14,.int .i64 0),(15,.int .i64 ↑LN),(16,.int .i64 0),(98,.bool false),(100,U.bool (decide ((0:Int)≠(0:Int))))] [] ([SB.box (Ln.cs l),SB.box [.int .i64 n0,.int .i64 n1,.int .i64 n2]]) (.c4 rfl rfl rfl rfl (.c4 rfl rfl rfl rfl (.n7 rfl))) rfl rfl fun fr=>?_
    refine zA rfl (ke rfl (ke rfl (kf rfl (kD rfl ?_))))
    refine kD rfl ?_
    refine zA rfl (kf rfl (zA rfl (kf rfl (ks rfl (kf rfl (zA rfl ?_))))))
    refine zT [(1,.lst .ro 1 (zD H)),(3,U.box 0 0),(5,U.box 1 0),(7,.int .i64 w),(8,.int .i64 m),(9,.lst .ro 1 (zD A)),(10,.lst .ro 1 (zD B)),(11,.int .i64 0),(12,.lst .ro 1 (zD C)),(13,.lst .ro 1 (zD D)),(14,.int .i64 0),(15,.int .i64 ↑LN),(16,.int .i64 0),(106,.bool false),(108,U.bool (decide ((0:Int)=(0:Int)))),(109,.int .i64 0)] [] ([SB.box (Ln.cs l),SB.box [.int .i64 n0,.int .i64 n1,.int .i64 n2]]) (.c4 rfl rfl rfl rfl (.c4 rfl rfl rfl rfl (.n8 rfl))) rfl rfl fun fr=>?_
    refine kf rfl ?_
    refine zT [(1,.lst .ro 1 (zD H)),(3,U.box 0 0),(5,U.box 1 0),(7,.int .i64 w),(8,.int .i64 m),(9,.lst .ro 1 (zD A)),(10,.lst .ro 1 (zD B)),(11,.int .i64 0),(12,.lst .ro 1 (zD C)),(13,.lst .ro 1 (zD D)),(14,.int .i64 0),(15,.int .i64 ↑LN),(16,.int .i64 0),(106,.bool false),(108,U.bool (decide ((0:Int)=(0:Int)))),(109,.int .i64 0)] [] ([SB.box (Ln.cs l),SB.box [.int .i64 n0,.int .i64 n1,.int .i64 n2]]) (.c4 rfl rfl rfl rfl (.c4 rfl rfl rfl rfl (.n8 rfl))) rfl rfl fun fr=>?_
    refine ks rfl (kf rfl (zA rfl (kf rfl (zA rfl (kf rfl (zA rfl (kf rfl (kq rfl (kf rfl (kE rfl ?_))))))))))
    refine kf rfl (zEN rfl ty4 rfl rfl ?_)
    refine kD rfl ?_
    refine zA rfl ?_
    refine zT [(1,.lst .ro 1 (zD H)),(3,U.box 0 0),(5,U.box 1 0),(7,.int .i64 w),(8,.int .i64 m),(9,.lst .ro 1 (zD A)),(10,.lst .ro 1 (zD B)),(11,.int .i64 0),(12,.lst .ro 1 (zD C)),(13,.lst .ro 1 (zD D)),(14,.int .i64 0),(15,.int .i64 ↑LN),(16,.int .i64 0),(118,U.bool (decide (decide ((0:Int)=(0:Int))≠decide (↑LN≤m))))] [] ([SB.box (Ln.cs l),SB.box [.int .i64 n0,.int .i64 n1,.int .i64 n2]]) (.c4 rfl rfl rfl rfl (.n10 rfl)) rfl rfl fun fr=>?_
    refine kh rfl (by assumption) ?_
    refine zT [(1,.lst .ro 1 (zD H)),(3,U.box 0 0),(5,U.box 1 0),(7,.int .i64 w),(8,.int .i64 m),(9,.lst .ro 1 (zD A)),(10,.lst .ro 1 (zD B)),(11,.int .i64 0),(12,.lst .ro 1 (zD C)),(13,.lst .ro 1 (zD D)),(14,.int .i64 0),(15,.int .i64 ↑LN),(16,.int .i64 0),(118,U.bool (decide (decide ((0:Int)=(0:Int))≠decide (↑LN≤m))))] [] ([SB.box (Ln.cs l),SB.box [.int .i64 n0,.int .i64 n1,.int .i64 n2]]) (.c4 rfl rfl rfl rfl (.n10 rfl)) rfl rfl fun fr=>?_
    refine zA rfl (kh rfl (by assumption) (ks rfl (kh rfl (by assumption) (zA rfl (kh rfl (by assumption) (ks rfl (kh rfl (by assumption) (zA rfl (kf rfl (zA rfl (kf rfl (zA rfl (kf rfl ?_)))))))))))))
    refine kz rfl (by unfold I64;omega) (kf rfl (kq rfl ?_))
    refine zT [(1,.lst .ro 1 (zD H)),(3,U.box 0 0),(5,U.box 1 0),(7,.int .i64 w),(9,.lst .ro 1 (zD A)),(10,.lst .ro 1 (zD B)),(11,.int .i64 0),(12,.lst .ro 1 (zD C)),(13,.lst .ro 1 (zD D)),(15,.int .i64 ↑LN),(16,.int .i64 0),(118,U.bool (decide (decide ((0:Int)=(0:Int))≠decide (↑LN≤m)))),(120,U.bool (decide ((0:Int)=(0:Int)))),(123,U.bool (decide ((0:Int)=(0:Int)))),(127,U.bool (decide (↑LN≤m+(1:Int))))] [] ([SB.box (Ln.cs l),SB.box [.int .i64 n0,.int .i64 n1,.int .i64 n2]]) (.c4 rfl rfl rfl rfl (.c4 rfl rfl rfl rfl (.n7 rfl))) rfl rfl fun fr=>?_
    refine kh rfl (by assumption) ?_
    refine zT [(1,.lst .ro 1 (zD H)),(3,U.box 0 0),(5,U.box 1 0),(7,.int .i64 w),(9,.lst .ro 1 (zD A)),(10,.lst .ro 1 (zD B)),(11,.int .i64 0),(12,.lst .ro 1 (zD C)),(13,.lst .ro 1 (zD D)),(15,.int .i64 ↑LN),(16,.int .i64 0),(118,U.bool (decide (decide ((0:Int)=(0:Int))≠decide (↑LN≤m)))),(120,U.bool (decide ((0:Int)=(0:Int)))),(123,U.bool (decide ((0:Int)=(0:Int)))),(127,U.bool (decide (↑LN≤m+(1:Int))))] [] ([SB.box (Ln.cs l),SB.box [.int .i64 n0,.int .i64 n1,.int .i64 n2]]) (.c4 rfl rfl rfl rfl (.c4 rfl rfl rfl rfl (.n7 rfl))) rfl rfl fun fr=>?_
    refine kE rfl ?_
    refine kh rfl (by assumption) (zEN rfl ty4 rfl rfl ?_)
    refine wA rfl rfl (by assumption) ?_
    refine zA rfl (kh rfl (by assumption) (kB sh24 rfl (kh rfl (by assumption) (zO rfl (q41) (.lrefl _) (kh rfl (by assumption) (wc rfl rfl (wA rfl rfl (by assumption) ?_)))))))
    refine zC ?_
    refine zI [(1,.lst .ro 1 (zD H)),(3,U.box 0 0),(5,U.box 1 0),(7,.int .i64 w),(9,.lst .ro 1 (zD A)),(10,.lst .ro 1 (zD B)),(11,.int .i64 0),(12,.lst .ro 1 (zD C)),(13,.lst .ro 1 (zD D)),(15,.int .i64 ↑LN),(16,.int .i64 0),(135,U.bool !Bool.true)] ([SB.box (Ln.cs l),SB.box [.int .i64 n0,.int .i64 n1,.int .i64 n2]]) (.c4 rfl rfl rfl rfl (.n8 rfl)) rfl fun fr=>?_
    refine k_cF rfl rfl ?_
    refine zQ ?_
    exact .inl ⟨rfl,rfl,.c4 rfl rfl rfl rfl (.n7 rfl)⟩
   ·subst e
    rcases hF with e|e
    ·subst e
     have hgt: ¬ (LN:Int)≤m:=fun hh=>by have:=hf1.2 ⟨rfl,hh⟩;omega
     have k1:decide (decide ((4:Int)=0)≠decide ((LN:Int)≤m))=false:=by rw[kG (show ¬ (4:Int)=0 by decide),kG hgt];rfl
     rcases hE2 with e|e
     ·subst e
      have hle:=(hf2.1 rfl).2
      have k2:decide (decide ((0:Int)=0)≠decide ((LN:Int)≤m+1))=false:=by rw[kF (rfl:(0:Int)=0),kF hle];rfl
      refine kQ (zA rfl (kr rfl (zA rfl (kf rfl (zA rfl (kf rfl (kr rfl (kE rfl ?_))))))))
      refine zA rfl (kf rfl (zA rfl (kf rfl (kr rfl ?_))))
      refine zT [(1,.lst .ro 1 (zD H)),(3,U.box 0 0),(5,U.box 1 0),(7,.int .i64 w),(8,.int .i64 m),(9,.lst .ro 1 (zD A)),(10,.lst .ro 1 (zD B)),(11,.int .i64 4),(12,.lst .ro 1 (zD C)),(13,.lst .ro 1 (zD D)),(14,.int .i64 0),(15,.int .i64 ↑LN),(16,.int .i64 0),(98,U.bool (decide ((4:Int)≠(4:Int)))),(100,U.bool (decide ((0:Int)≠(0:Int))))] [] ([SB.box (Ln.cs l),SB.box [.int .i64 n0,.int .i64 n1,.int .i64 n2]]) (.c4 rfl rfl rfl rfl (.c4 rfl rfl rfl rfl (.n7 rfl))) rfl rfl fun fr=>?_
      refine kf rfl ?_
      refine zT [(1,.lst .ro 1 (zD H)),(3,U.box 0 0),(5,U.box 1 0),(7,.int .i64 w),(8,.int .i64 m),(9,.lst .ro 1 (zD A)),(10,.lst .ro 1 (zD B)),(11,.int .i64 4),(12,.lst .ro 1 (zD C)),(13,.lst .ro 1 (zD D)),(14,.int .i64 0),(15,.int .i64 ↑LN),(16,.int .i64 0),(98,U.bool (decide ((4:Int)≠(4:Int)))),(100,U.bool (decide ((0:Int)≠(0:Int))))] [] ([SB.box (Ln.cs l),SB.box [.int .i64 n0,.int .i64 n1,.int .i64 n2]]) (.c4 rfl rfl rfl rfl (.c4 rfl rfl rfl rfl (.n7 rfl))) rfl rfl fun fr=>?_
      refine zA rfl (ke rfl (ke rfl (kf rfl (kD rfl ?_))))
      refine kD rfl ?_
      refine zA rfl (kf rfl (zA rfl (kf rfl (ks rfl (kf rfl (zA rfl ?_))))))
      refine zT [(1,.lst .ro 1 (zD H)),(3,U.box 0 0),(5,U.box 1 0),(7,.int .i64 w),(8,.int .i64 m),(9,.lst .ro 1 (zD A)),(10,.lst .ro 1 (zD B)),(11,.int .i64 4),(12,.lst .ro 1 (zD C)),(13,.lst .ro 1 (zD D)),(14,.int .i64 0),(15,.int .i64 ↑LN),(16,.int .i64 0),(106,.bool false),(108,U.bool (decide ((4:Int)=(0:Int)))),(109,.int .i64 0)] [] ([SB.box (Ln.cs l),SB.box [.int .i64 n0,.int .i64 n1,.int .i64 n2]]) (.c4 rfl rfl rfl rfl (.c4 rfl rfl rfl rfl (.n8 rfl))) rfl rfl fun fr=>?_
      refine kf rfl ?_
      refine zT [(1,.lst .ro 1 (zD H)),(3,U.box 0 0),(5,U.box 1 0),(7,.int .i64 w),(8,.int .i64 m),(9,.lst .ro 1 (zD A)),(10,.lst .ro 1 (zD B)),(11,.int .i64 4),(12,.lst .ro 1 (zD C)),(13,.lst .ro 1 (zD D)),(14,.int .i64 0),(15,.int .i64 ↑LN),(16,.int .i64 0),(106,.bool false),(108,U.bool (decide ((4:Int)=(0:Int)))),(109,.int .i64 0)] [] ([SB.box (Ln.cs l),SB.box [.int .i64 n0,.int .i64 n1,.int .i64 n2]]) (.c4 rfl rfl rfl rfl (.c4 rfl rfl rfl rfl (.n8 rfl))) rfl rfl fun fr=>?_
      refine ks rfl (kf rfl (zA rfl (kf rfl (zA rfl (kf rfl (zA rfl (kf rfl (kq rfl (kf rfl (kE rfl ?_))))))))))
      refine kf rfl (zEN rfl ty4 rfl rfl ?_)
      refine kD rfl ?_
      refine zA rfl ?_
      refine zT [(1,.lst .ro 1 (zD H)),(3,U.box 0 0),(5,U.box 1 0),(7,.int .i64 w),(8,.int .i64 m),(9,.lst .ro 1 (zD A)),(10,.lst .ro 1 (zD B)),(11,.int .i64 4),(12,.lst .ro 1 (zD C)),(13,.lst .ro 1 (zD D)),(14,.int .i64 0),(15,.int .i64 ↑LN),(16,.int .i64 0),(118,U.bool (decide (decide ((4:Int)=(0:Int))≠decide (↑LN≤m))))] [] ([SB.box (Ln.cs l),SB.box [.int .i64 n0,.int .i64 n1,.int .i64 n2]]) (.c4 rfl rfl rfl rfl (.n10 rfl)) rfl rfl fun fr=>?_
      refine kh rfl (by assumption) ?_
      refine zT [(1,.lst .ro 1 (zD H)),(3,U.box 0 0),(5,U.box 1 0),(7,.int .i64 w),(8,.int .i64 m),(9,.lst .ro 1 (zD A)),(10,.lst .ro 1 (zD B)),(11,.int .i64 4),(12,.lst .ro 1 (zD C)),(13,.lst .ro 1 (zD D)),(14,.int .i64 0),(15,.int .i64 ↑LN),(16,.int .i64 0),(118,U.bool (decide (decide ((4:Int)=(0:Int))≠decide (↑LN≤m))))] [] ([SB.box (Ln.cs l),SB.box [.int .i64 n0,.int .i64 n1,.int .i64 n2]]) (.c4 rfl rfl rfl rfl (.n10 rfl)) rfl rfl fun fr=>?_
      refine zA rfl (kh rfl (by assumption) (ks rfl (kh rfl (by assumption) (zA rfl (kh rfl (by assumption) (ks rfl (kh rfl (by assumption) (zA rfl (kf rfl (zA rfl (kf rfl (zA rfl (kf rfl ?_)))))))))))))
      refine kz rfl (by unfold I64;omega) (kf rfl (kq rfl ?_))
      refine zT [(1,.lst .ro 1 (zD H)),(3,U.box 0 0),(5,U.box 1 0),(7,.int .i64 w),(9,.lst .ro 1 (zD A)),(10,.lst .ro 1 (zD B)),(11,.int .i64 4),(12,.lst .ro 1 (zD C)),(13,.lst .ro 1 (zD D)),(15,.int .i64 ↑LN),(16,.int .i64 0),(118,U.bool (decide (decide ((4:Int)=(0:Int))≠decide (↑LN≤m)))),(120,U.bool (decide ((0:Int)=(0:Int)))),(123,U.bool (decide ((0:Int)=(0:Int)))),(127,U.bool (decide (↑LN≤m+(1:Int))))] [] ([SB.box (Ln.cs l),SB.box [.int .i64 n0,.int .i64 n1,.int .i64 n2]]) (.c4 rfl rfl rfl rfl (.c4 rfl rfl rfl rfl (.n7 rfl))) rfl rfl fun fr=>?_
      refine kh rfl (by assumption) ?_
      refine zT [(1,.lst .ro 1 (zD H)),(3,U.box 0 0),(5,U.box 1 0),(7,.int .i64 w),(9,.lst .ro 1 (zD A)),(10,.lst .ro 1 (zD B)),(11,.int .i64 4),(12,.lst .ro 1 (zD C)),(13,.lst .ro 1 (zD D)),(15,.int .i64 ↑LN),(16,.int .i64 0),(118,U.bool (decide (decide ((4:Int)=(0:Int))≠decide (↑LN≤m)))),(120,U.bool (decide ((0:Int)=(0:Int)))),(123,U.bool (decide ((0:Int)=(0:Int)))),(127,U.bool (decide (↑LN≤m+(1:Int))))] [] ([SB.box (Ln.cs l),SB.box [.int .i64 n0,.int .i64 n1,.int .i64 n2]]) (.c4 rfl rfl rfl rfl (.c4 rfl rfl rfl rfl (.n7 rfl))) rfl rfl fun fr=>?_
      refine kE rfl ?_
      refine kh rfl (by assumption) (zEN rfl ty4 rfl rfl ?_)
      refine wA rfl rfl (by assumption) ?_
      refine zA rfl (kh rfl (by assumption) (kB sh24 rfl (kh rfl (by assumption) (zO rfl (q41) (.lrefl _) (kh rfl (by assumption) (wc rfl rfl (wA rfl rfl (by assumption) ?_)))))))
      refine zC ?_
      refine zI [(1,.lst .ro 1 (zD H)),(3,U.box 0 0),(5,U.box 1 0),(7,.int .i64 w),(9,.lst .ro 1 (zD A)),(10,.lst .ro 1 (zD B)),(11,.int .i64 4),(12,.lst .ro 1 (zD C)),(13,.lst .ro 1 (zD D)),(15,.int .i64 ↑LN),(16,.int .i64 0),(135,U.bool !Bool.true)] ([SB.box (Ln.cs l),SB.box [.int .i64 n0,.int .i64 n1,.int .i64 n2]]) (.c4 rfl rfl rfl rfl (.n8 rfl)) rfl fun fr=>?_
      refine k_cF rfl rfl ?_
      refine zQ ?_
      exact .inl ⟨rfl,rfl,.c4 rfl rfl rfl rfl (.n7 rfl)⟩
     ·subst e
      have hgt2: ¬ (LN:Int)≤m+1:=fun hh=>by have:=hf2.2 ⟨rfl,hh⟩;omega
      have k2:decide (decide ((4:Int)=0)≠decide ((LN:Int)≤m+1))=false:=by rw[kG (show ¬ (4:Int)=0 by decide),kG hgt2];rfl
      refine kQ (zA rfl (kr rfl (zA rfl (kf rfl (zA rfl (kf rfl (kr rfl (kE rfl ?_))))))))
      refine zA rfl (kf rfl (zA rfl (kf rfl (kr rfl ?_))))
      refine zT [(1,.lst .ro 1 (zD H)),(3,U.box 0 0),(5,U.box 1 0),(7,.int .i64 w),(8,.int .i64 m),(9,.lst .ro 1 (zD A)),(10,.lst .ro 1 (zD B)),(11,.int .i64 4),(12,.lst .ro 1 (zD C)),(13,.lst .ro 1 (zD D)),(14,.int .i64 4),(15,.int .i64 ↑LN),(16,.int .i64 0),(98,U.bool (decide ((4:Int)≠(4:Int)))),(100,U.bool (decide ((4:Int)≠(0:Int))))] [] ([SB.box (Ln.cs l),SB.box [.int .i64 n0,.int .i64 n1,.int .i64 n2]]) (.c4 rfl rfl rfl rfl (.c4 rfl rfl rfl rfl (.n7 rfl))) rfl rfl fun fr=>?_
      refine kf rfl ?_
      refine zT [(1,.lst .ro 1 (zD H)),(3,U.box 0 0),(5,U.box 1 0),(7,.int .i64 w),(8,.int .i64 m),(9,.lst .ro 1 (zD A)),(10,.lst .ro 1 (zD B)),(11,.int .i64 4),(12,.lst .ro 1 (zD C)),(13,.lst .ro 1 (zD D)),(14,.int .i64 4),(15,.int .i64 ↑LN),(16,.int .i64 0),(98,U.bool (decide ((4:Int)≠(4:Int)))),(100,U.bool (decide ((4:Int)≠(0:Int))))] [] ([SB.box (Ln.cs l),SB.box [.int .i64 n0,.int .i64 n1,.int .i64 n2]]) (.c4 rfl rfl rfl rfl (.c4 rfl rfl rfl rfl (.n7 rfl))) rfl rfl fun fr=>?_
      refine zA rfl (kf rfl (zA rfl (kf rfl (kr rfl (kf rfl (kE rfl ?_))))))
      refine kD rfl ?_
      refine zA rfl (kf rfl (zA rfl (kf rfl (ks rfl (kf rfl (zA rfl ?_))))))
      refine zT [(1,.lst .ro 1 (zD H)),(3,U.box 0 0),(5,U.box 1 0),(7,.int .i64 w),(8,.int .i64 m),(9,.lst .ro 1 (zD A)),(10,.lst .ro 1 (zD B)),(11,.int .i64 4),(12,.lst .ro 1 (zD C)),(13,.lst .ro 1 (zD D)),(14,.int .i64 4),(15,.int .i64 ↑LN),(16,.int .i64 0),(106,U.bool (decide ((4:Int)≠(4:Int)))),(108,U.bool (decide ((4:Int)=(0:Int)))),(109,.int .i64 0)] [] ([SB.box (Ln.cs l),SB.box [.int .i64 n0,.int .i64 n1,.int .i64 n2]]) (.c4 rfl rfl rfl rfl (.c4 rfl rfl rfl rfl (.n8 rfl))) rfl rfl fun fr=>?_
      refine kf rfl ?_
      refine zT [(1,.lst .ro 1 (zD H)),(3,U.box 0 0),(5,U.box 1 0),(7,.int .i64 w),(8,.int .i64 m),(9,.lst .ro 1 (zD A)),(10,.lst .ro 1 (zD B)),(11,.int .i64 4),(12,.lst .ro 1 (zD C)),(13,.lst .ro 1 (zD D)),(14,.int .i64 4),(15,.int .i64 ↑LN),(16,.int .i64 0),(106,U.bool (decide ((4:Int)≠(4:Int)))),(108,U.bool (decide ((4:Int)=(0:Int)))),(109,.int .i64 0)] [] ([SB.box (Ln.cs l),SB.box [.int .i64 n0,.int .i64 n1,.int .i64 n2]]) (.c4 rfl rfl rfl rfl (.c4 rfl rfl rfl rfl (.n8 rfl))) rfl rfl fun fr=>?_
      refine ks rfl (kf rfl (zA rfl (kf rfl (zA rfl (kf rfl (zA rfl (kf rfl (kq rfl (kf rfl (kE rfl ?_))))))))))
      refine kf rfl (zEN rfl ty4 rfl rfl ?_)
      refine kD rfl ?_
      refine zA rfl ?_
      refine zT [(1,.lst .ro 1 (zD H)),(3,U.box 0 0),(5,U.box 1 0),(7,.int .i64 w),(8,.int .i64 m),(9,.lst .ro 1 (zD A)),(10,.lst .ro 1 (zD B)),(11,.int .i64 4),(12,.lst .ro 1 (zD C)),(13,.lst .ro 1 (zD D)),(14,.int .i64 4),(15,.int .i64 ↑LN),(16,.int .i64 0),(118,U.bool (decide (decide ((4:Int)=(0:Int))≠decide (↑LN≤m))))] [] ([SB.box (Ln.cs l),SB.box [.int .i64 n0,.int .i64 n1,.int .i64 n2]]) (.c4 rfl rfl rfl rfl (.n10 rfl)) rfl rfl fun fr=>?_
      refine kh rfl (by assumption) ?_
      refine zT [(1,.lst .ro 1 (zD H)),(3,U.box 0 0),(5,U.box 1 0),(7,.int .i64 w),(8,.int .i64 m),(9,.lst .ro 1 (zD A)),(10,.lst .ro 1 (zD B)),(11,.int .i64 4),(12,.lst .ro 1 (zD C)),(13,.lst .ro 1 (zD D)),(14,.int .i64 4),(15,.int .i64 ↑LN),(16,.int .i64 0),(118,U.bool (decide (decide ((4:Int)=(0:Int))≠decide (↑LN≤m))))] [] ([SB.box (Ln.cs l),SB.box [.int .i64 n0,.int .i64 n1,.int .i64 n2]]) (.c4 rfl rfl rfl rfl (.n10 rfl)) rfl rfl fun fr=>?_
      refine zA rfl (kh rfl (by assumption) (ks rfl (kh rfl (by assumption) (zA rfl (kh rfl (by assumption) (ks rfl (kh rfl (by assumption) (zA rfl (kf rfl (zA rfl (kf rfl (zA rfl (kf rfl ?_)))))))))))))
      refine kz rfl (by unfold I64;omega) (kf rfl (kq rfl ?_))
      refine zT [(1,.lst .ro 1 (zD H)),(3,U.box 0 0),(5,U.box 1 0),(7,.int .i64 w),(9,.lst .ro 1 (zD A)),(10,.lst .ro 1 (zD B)),(11,.int .i64 4),(12,.lst .ro 1 (zD C)),(13,.lst .ro 1 (zD D)),(15,.int .i64 ↑LN),(16,.int .i64 0),(118,U.bool (decide (decide ((4:Int)=(0:Int))≠decide (↑LN≤m)))),(120,U.bool (decide ((4:Int)=(0:Int)))),(123,U.bool (decide ((0:Int)=(0:Int)))),(127,U.bool (decide (↑LN≤m+(1:Int))))] [] ([SB.box (Ln.cs l),SB.box [.int .i64 n0,.int .i64 n1,.int .i64 n2]]) (.c4 rfl rfl rfl rfl (.c4 rfl rfl rfl rfl (.n7 rfl))) rfl rfl fun fr=>?_
      refine kh rfl (by assumption) ?_
      refine zT [(1,.lst .ro 1 (zD H)),(3,U.box 0 0),(5,U.box 1 0),(7,.int .i64 w),(9,.lst .ro 1 (zD A)),(10,.lst .ro 1 (zD B)),(11,.int .i64 4),(12,.lst .ro 1 (zD C)),(13,.lst .ro 1 (zD D)),(15,.int .i64 ↑LN),(16,.int .i64 0),(118,U.bool (decide (decide ((4:Int)=(0:Int))≠decide (↑LN≤m)))),(120,U.bool (decide ((4:Int)=(0:Int)))),(123,U.bool (decide ((0:Int)=(0:Int)))),(127,U.bool (decide (↑LN≤m+(1:Int))))] [] ([SB.box (Ln.cs l),SB.box [.int .i64 n0,.int .i64 n1,.int .i64 n2]]) (.c4 rfl rfl rfl rfl (.c4 rfl rfl rfl rfl (.n7 rfl))) rfl rfl fun fr=>?_
      refine kE rfl ?_
      refine kh rfl (by assumption) (zEN rfl ty4 rfl rfl ?_)
      refine wA rfl rfl (by assumption) ?_
      refine zA rfl (kh rfl (by assumption) (kB sh24 rfl (kh rfl (by assumption) (zO rfl (q41) (.lrefl _) (kh rfl (by assumption) (wc rfl rfl (wA rfl rfl (by assumption) ?_)))))))
      refine zC ?_
      refine zI [(1,.lst .ro 1 (zD H)),(3,U.box 0 0),(5,U.box 1 0),(7,.int .i64 w),(9,.lst .ro 1 (zD A)),(10,.lst .ro 1 (zD B)),(11,.int .i64 4),(12,.lst .ro 1 (zD C)),(13,.lst .ro 1 (zD D)),(15,.int .i64 ↑LN),(16,.int .i64 0),(135,U.bool !Bool.true)] ([SB.box (Ln.cs l),SB.box [.int .i64 n0,.int .i64 n1,.int .i64 n2]]) (.c4 rfl rfl rfl rfl (.n8 rfl)) rfl fun fr=>?_
      refine k_cF rfl rfl ?_
      refine zQ ?_
      exact .inl ⟨rfl,rfl,.c4 rfl rfl rfl rfl (.n7 rfl)⟩
    ·subst e
     rcases hE2 with e|e
     ·have:=(hf2.1 e).1;omega
     ·subst e
      have k1:decide (decide ((4:Int)=0)≠false)=false:=by decide
      refine kQ (zA rfl (kr rfl (zA rfl (kf rfl (zA rfl (kf rfl (kr rfl (kE rfl ?_))))))))
      refine zA rfl (kf rfl (zA rfl (kf rfl (kr rfl ?_))))
      refine zT [(1,.lst .ro 1 (zD H)),(3,U.box 0 0),(5,U.box 1 0),(7,.int .i64 w),(8,.int .i64 m),(9,.lst .ro 1 (zD A)),(10,.lst .ro 1 (zD B)),(11,.int .i64 4),(12,.lst .ro 1 (zD C)),(13,.lst .ro 1 (zD D)),(14,.int .i64 4),(15,.int .i64 ↑LN),(16,.int .i64 4),(98,U.bool (decide ((4:Int)≠(4:Int)))),(100,U.bool (decide ((4:Int)≠(0:Int))))] [] ([SB.box (Ln.cs l),SB.box [.int .i64 n0,.int .i64 n1,.int .i64 n2]]) (.c4 rfl rfl rfl rfl (.c4 rfl rfl rfl rfl (.n7 rfl))) rfl rfl fun fr=>?_
      refine kf rfl ?_
      refine zT [(1,.lst .ro 1 (zD H)),(3,U.box 0 0),(5,U.box 1 0),(7,.int .i64 w),(8,.int .i64 m),(9,.lst .ro 1 (zD A)),(10,.lst .ro 1 (zD B)),(11,.int .i64 4),(12,.lst .ro 1 (zD C)),(13,.lst .ro 1 (zD D)),(14,.int .i64 4),(15,.int .i64 ↑LN),(16,.int .i64 4),(98,U.bool (decide ((4:Int)≠(4:Int)))),(100,U.bool (decide ((4:Int)≠(0:Int))))] [] ([SB.box (Ln.cs l),SB.box [.int .i64 n0,.int .i64 n1,.int .i64 n2]]) (.c4 rfl rfl rfl rfl (.c4 rfl rfl rfl rfl (.n7 rfl))) rfl rfl fun fr=>?_
      refine zA rfl (kf rfl (zA rfl (kf rfl (kr rfl (kf rfl (kE rfl ?_))))))
      refine kD rfl ?_
      refine zA rfl (kf rfl (zA rfl (kf rfl (ks rfl (kf rfl (zA rfl ?_))))))
      refine zT [(1,.lst .ro 1 (zD H)),(3,U.box 0 0),(5,U.box 1 0),(7,.int .i64 w),(8,.int .i64 m),(9,.lst .ro 1 (zD A)),(10,.lst .ro 1 (zD B)),(11,.int .i64 4),(12,.lst .ro 1 (zD C)),(13,.lst .ro 1 (zD D)),(14,.int .i64 4),(15,.int .i64 ↑LN),(16,.int .i64 4),(106,U.bool (decide ((4:Int)≠(4:Int)))),(108,U.bool (decide ((4:Int)=(0:Int)))),(109,.int .i64 4)] [] ([SB.box (Ln.cs l),SB.box [.int .i64 n0,.int .i64 n1,.int .i64 n2]]) (.c4 rfl rfl rfl rfl (.c4 rfl rfl rfl rfl (.n8 rfl))) rfl rfl fun fr=>?_
      refine kf rfl ?_
      refine zT [(1,.lst .ro 1 (zD H)),(3,U.box 0 0),(5,U.box 1 0),(7,.int .i64 w),(8,.int .i64 m),(9,.lst .ro 1 (zD A)),(10,.lst .ro 1 (zD B)),(11,.int .i64 4),(12,.lst .ro 1 (zD C)),(13,.lst .ro 1 (zD D)),(14,.int .i64 4),(15,.int .i64 ↑LN),(16,.int .i64 4),(106,U.bool (decide ((4:Int)≠(4:Int)))),(108,U.bool (decide ((4:Int)=(0:Int)))),(109,.int .i64 4)] [] ([SB.box (Ln.cs l),SB.box [.int .i64 n0,.int .i64 n1,.int .i64 n2]]) (.c4 rfl rfl rfl rfl (.c4 rfl rfl rfl rfl (.n8 rfl))) rfl rfl fun fr=>?_
      refine ks rfl (kf rfl (zA rfl (ke rfl (ke rfl (ke rfl (kf rfl (kD rfl ?_)))))))
      refine kf rfl (zEN rfl ty4 rfl rfl ?_)
      refine kD rfl ?_
      refine zA rfl ?_
      refine zT [(1,.lst .ro 1 (zD H)),(3,U.box 0 0),(5,U.box 1 0),(7,.int .i64 w),(8,.int .i64 m),(9,.lst .ro 1 (zD A)),(10,.lst .ro 1 (zD B)),(11,.int .i64 4),(12,.lst .ro 1 (zD C)),(13,.lst .ro 1 (zD D)),(14,.int .i64 4),(15,.int .i64 ↑LN),(16,.int .i64 4),(118,U.bool (decide (decide ((4:Int)=(0:Int))≠Bool.false)))] [] ([SB.box (Ln.cs l),SB.box [.int .i64 n0,.int .i64 n1,.int .i64 n2]]) (.c4 rfl rfl rfl rfl (.n10 rfl)) rfl rfl fun fr=>?_
      refine kf rfl ?_
      refine zT [(1,.lst .ro 1 (zD H)),(3,U.box 0 0),(5,U.box 1 0),(7,.int .i64 w),(8,.int .i64 m),(9,.lst .ro 1 (zD A)),(10,.lst .ro 1 (zD B)),(11,.int .i64 4),(12,.lst .ro 1 (zD C)),(13,.lst .ro 1 (zD D)),(14,.int .i64 4),(15,.int .i64 ↑LN),(16,.int .i64 4),(118,U.bool (decide (decide ((4:Int)=(0:Int))≠Bool.false)))] [] ([SB.box (Ln.cs l),SB.box [.int .i64 n0,.int .i64 n1,.int .i64 n2]]) (.c4 rfl rfl rfl rfl (.n10 rfl)) rfl rfl fun fr=>?_
      refine zA rfl (kf rfl (ks rfl (kf rfl (zA rfl (kf rfl (ks rfl (kf rfl (zA rfl (ke rfl (ke rfl (ke rfl (ke rfl ?_))))))))))))
      refine zT [(1,.lst .ro 1 (zD H)),(3,U.box 0 0),(5,U.box 1 0),(7,.int .i64 w),(9,.lst .ro 1 (zD A)),(10,.lst .ro 1 (zD B)),(11,.int .i64 4),(12,.lst .ro 1 (zD C)),(13,.lst .ro 1 (zD D)),(15,.int .i64 ↑LN),(16,.int .i64 4),(118,U.bool (decide (decide ((4:Int)=(0:Int))≠Bool.false))),(120,U.bool (decide ((4:Int)=(0:Int)))),(123,U.bool (decide ((4:Int)=(0:Int)))),(127,U.tup [])] [] ([SB.box (Ln.cs l),SB.box [.int .i64 n0,.int .i64 n1,.int .i64 n2]]) (.c4 rfl rfl rfl rfl (.c4 rfl rfl rfl rfl (.n7 rfl))) rfl rfl fun fr=>?_
      refine kf rfl ?_
      refine zT [(1,.lst .ro 1 (zD H)),(3,U.box 0 0),(5,U.box 1 0),(7,.int .i64 w),(9,.lst .ro 1 (zD A)),(10,.lst .ro 1 (zD B)),(11,.int .i64 4),(12,.lst .ro 1 (zD C)),(13,.lst .ro 1 (zD D)),(15,.int .i64 ↑LN),(16,.int .i64 4),(118,U.bool (decide (decide ((4:Int)=(0:Int))≠Bool.false))),(120,U.bool (decide ((4:Int)=(0:Int)))),(123,U.bool (decide ((4:Int)=(0:Int)))),(127,U.tup [])] [] ([SB.box (Ln.cs l),SB.box [.int .i64 n0,.int .i64 n1,.int .i64 n2]]) (.c4 rfl rfl rfl rfl (.c4 rfl rfl rfl rfl (.n7 rfl))) rfl rfl fun fr=>?_
      refine kD rfl ?_
      refine kf rfl (zEN rfl ty4 rfl rfl ?_)
      refine kD rfl ?_
      refine zA rfl (kf rfl (kB sh24 rfl (kf rfl (zO rfl (q41) (.lrefl _) (kf rfl (wc rfl rfl (kD rfl ?_)))))))
      refine zC ?_
      refine zI [(1,.lst .ro 1 (zD H)),(3,U.box 0 0),(5,U.box 1 0),(7,.int .i64 w),(9,.lst .ro 1 (zD A)),(10,.lst .ro 1 (zD B)),(11,.int .i64 4),(12,.lst .ro 1 (zD C)),(13,.lst .ro 1 (zD D)),(15,.int .i64 ↑LN),(16,.int .i64 4),(135,U.bool !Bool.true)] ([SB.box (Ln.cs l),SB.box [.int .i64 n0,.int .i64 n1,.int .i64 n2]]) (.c4 rfl rfl rfl rfl (.n8 rfl)) rfl fun fr=>?_
      refine k_cF rfl rfl ?_
      refine zQ ?_
      exact .inl ⟨rfl,rfl,.c4 rfl rfl rfl rfl (.n7 rfl)⟩
  rintro s3 ⟨hst3,hs3⟩
  clear hst2 hs2
  refine k_cutR (fun s4=>s4.st=[.box l.cs,.box [.int .i64 n0,.int .i64 n1,.int .i64 n2]]∧Holds s4 [(1,.lst .ro 1 (zD H)),(3,.box 0 0),(5,.box 1 0),(7,.int .i64 w),(15,.int .i64 (LN:Nat)),(16,.int .i64 F)]) ?_ ?_
  ·rcases hE1 with e|e
   ·subst e
    obtain⟨e,hle⟩:=hf1.1 rfl
    have e2:=hf2.2 ⟨e,by omega⟩
    obtain⟨hCA,hAB⟩:=hml rfl e2
    refine zI _ _ hs3 hst3 fun fr3=>?_
    refine kQ (zA rfl (ks rfl (zC (k_cT rfl rfl ?_))))
    refine k_seq (kQ (zB rfl (zC (zM ?_))))
    have q49a:=fun x=>ret49 (orc:=orc) hi A x (by omega)
    have q49c:=fun x=>ret49 (orc:=orc) hi C x (by omega)
    have q49d:=fun x=>ret49 (orc:=orc) hi D x (by omega)
    clear hml hf1 hf2 hE2 hF hmo hmr hLo
    refine wC (fun kk s5=>∃j:Nat,kk+j=C.length∧s5.st=[.box l.cs,.box [.int .i64 n0,.int .i64 n1,.int .i64 n2]]∧Holds s5 [(1,.lst .ro 1 (zD H)),(3,.box 0 0),(5,.box 1 0),(7,.int .i64 w),(9,.lst .ro 1 (zD A)),(10,.lst .ro 1 (zD B)),(12,.lst .ro 1 (zD C)),(13,.lst .ro 1 (zD D)),(15,.int .i64 (LN:Nat)),(16,.int .i64 F),(17,.int .i64 j)]) (fun kk s5 hJ=>?_) C.length _ ⟨0,rfl,rfl,.c4 rfl rfl rfl rfl (.n7 rfl)⟩
    obtain⟨j,hk5,hst5,hs5⟩:=hJ
    by_cases hj:j<C.length
    ·obtain⟨x,hx⟩:∃x,C[j]? =some x:=⟨C[j],List.getElem?_eq_getElem hj⟩
     have hxm:=hCA x (List.mem_of_getElem? hx)
     have q49:=q49a x
     have hix:=zFf A x 0
     rw[kF hxm]at hix
     have hix:=of_decide_eq_true hix
     clear q49a q49c q49d
     generalize idxI A x 0=ix at*
     refine zI _ _ hs5 hst5 fun fr5=>?_
     refine k_seq (kQ (zA rfl (zA rfl (yl rfl ty22 rfl (List.length_map _) ?_))))
     refine kp rfl (zC (k_cT rfl (kF (by omega)) (zQ (k_seq (zM (kQ (zA rfl (zA rfl (zA rfl (zAc (u:=.int .i64 (x)) rfl ty22 rfl rfl (Int.natCast_nonneg _) (by simp[hx]) cl3 ?_))))))))))
     refine kC sh3 rfl ?_
     refine zO rfl (q49) (.lrefl _) (kp rfl (zC (k_cF rfl (kG (by omega)) (zQ (k_region (zA rfl ?_))))))
     refine kz rfl (by unfold I64;omega) (zB rfl (zC ?_))
     exact⟨kk - 1,by omega,j+1,by omega,rfl,.c4 rfl rfl rfl rfl (.n7 rfl)⟩
    ·refine zI _ _ hs5 hst5 fun fr5=>?_
     refine k_seq (kQ (zA rfl (zA rfl (yl rfl ty22 rfl (List.length_map _) ?_))))
     refine kp rfl (zC (k_cF rfl (kG (by omega)) (yW (kQ (zFS (es:=[]) rfl ty22 ze3 cl3 rfl rfl rfl rfl rfl rfl rfl rfl ?_)))))
     refine zA rfl ?_
     refine zFT rfl zEF rfl rfl (by simp) (by simp) (by simp[yE,zd,oneU]) (by simp;omega) ?_
     refine zA rfl ?_
     refine o_appendO rfl zEF rfl rfl (by simp) (by simp) (by simp[yE,zd,oneU]) (by simp;omega) ?_
     refine zB rfl (zC (kQ (zB rfl (zC ?_))))
     refine zI [(1,.lst .ro 1 (zD H)),(3,U.box 0 0),(5,U.box 1 0),(7,.int .i64 w),(12,.lst .ro 1 (zD C)),(13,.lst .ro 1 (zD D)),(15,.int .i64 ↑LN),(16,.int .i64 F),(18,U.lst Kd.own 1 (zD A++zD B)),(19,.int .i64 0)] ([SB.box (Ln.cs l),SB.box [.int .i64 n0,.int .i64 n1,.int .i64 n2]]) (.n10 rfl) rfl fun fr=>?_
     refine zM ?_
     have hjb:(A++B).length≤32:=by rw[List.length_append];omega
     have hlen2:(zD A++zD B).length=(A++B).length:=by simp[zD]
     refine wC (fun mm s6=>∃j:Nat,mm+j=(A++B).length∧s6.st=[.box l.cs,.box [.int .i64 n0,.int .i64 n1,.int .i64 n2]]∧Holds s6 [(1,.lst .ro 1 (zD H)),(3,.box 0 0),(5,.box 1 0),(7,.int .i64 w),(12,.lst .ro 1 (zD C)),(13,.lst .ro 1 (zD D)),(15,.int .i64 (LN:Nat)),(16,.int .i64 F),(18,.lst .own 1 (zD A++zD B)),(19,.int .i64 j)]) (fun mm s6 hJ=>?_) (A++B).length _ ⟨0,rfl,rfl,.c4 rfl rfl rfl rfl (.n6 rfl)⟩
     obtain⟨j,hm6,hst6,hs6⟩:=hJ
     by_cases hj:j<(A++B).length
     ·obtain⟨x,hx⟩:∃x,(A++B)[j]? =some x:=⟨(A++B)[j],List.getElem?_eq_getElem hj⟩
      have hxm:=hAB x (List.mem_append.1 (List.mem_of_getElem? hx))
      have hxU:(zD A++zD B)[((j:Nat):Int).toNat]? =some (.int .i64 x):=by
       rw[←List.map_append,Int.toNat_natCast,List.getElem?_map,hx];rfl
      have q49y:=q49c x
      have q49z:=q49d x
      have hix:=zFf C x 0
      have hiy:=zFf D x 0
      clear q49a q49c q49d
      have hjl:(j:Int)<((zD A++zD B).length:Nat):=by rw[hlen2];omega
      by_cases c:x∈C
      ·rw[kF c]at hix
       have hix:=of_decide_eq_true hix
       generalize idxI C x 0=ix at*
       refine zI _ _ hs6 hst6 fun fr6=>?_
       refine k_seq (kQ (zA rfl (zA rfl (yl rfl ty22 rfl rfl ?_))))
       refine kp rfl (zC (k_cT rfl (kF (by omega)) (zQ (k_seq (zM (kQ (zA rfl (zA rfl (zA rfl (zAc (u:=.int .i64 x) rfl ty22 rfl rfl (Int.natCast_nonneg _) hxU cl3 ?_))))))))))
       refine kC sh3 rfl ?_
       refine zO rfl (q49y) (.lrefl _) (kp rfl (zA rfl (kg rfl (kG (by omega)) ?_)))
       refine kg rfl (kG (by omega)) ?_
       refine kg rfl (kG (by omega)) ?_
       refine kg rfl (kG (by omega)) ?_
       refine kg rfl (kG (by omega)) ?_
       refine kg rfl (kG (by omega)) ?_
       refine kg rfl (kG (by omega)) ?_
       refine wA rfl rfl (kG (by omega)) ?_
       refine zC (k_cF rfl rfl ?_)
       refine zQ (k_region (zA rfl ?_))
       refine kz rfl (by unfold I64;omega) (zB rfl (zC ?_))
       exact⟨mm - 1,by omega,j+1,by omega,rfl,.c4 rfl rfl rfl rfl (.n6 rfl)⟩
      ·rw[kG c]at hix
       have hix:=of_decide_eq_false hix
       have cP:x∈D:=hxm.resolve_left c
       rw[kF cP]at hiy
       have hiy:=of_decide_eq_true hiy
       generalize idxI C x 0=ix at*
       generalize idxI D x 0=iy at*
       refine zI _ _ hs6 hst6 fun fr6=>?_
       refine k_seq (kQ (zA rfl (zA rfl (yl rfl ty22 rfl rfl ?_))))
       refine kp rfl (zC (k_cT rfl (kF (by omega)) (zQ (k_seq (zM (kQ (zA rfl (zA rfl (zA rfl (zAc (u:=.int .i64 x) rfl ty22 rfl rfl (Int.natCast_nonneg _) hxU cl3 ?_))))))))))
       refine kC sh3 rfl ?_
       refine zO rfl (q49y) (.lrefl _) (kp rfl (zA rfl (kh rfl (kF (by omega)) ?_)))
       refine zA rfl (kh rfl (kF (by omega)) ?_)
       refine zA rfl (kh rfl (kF (by omega)) ?_)
       refine zA rfl (kh rfl (kF (by omega)) ?_)
       refine zAc (u:=.int .i64 x) rfl ty22 rfl rfl (Int.natCast_nonneg _) hxU cl3 ?_
       refine kh rfl (kF (by omega)) ?_
       refine kC sh3 rfl ?_
       refine kh rfl (kF (by omega)) ?_
       refine zO rfl (q49z) (.lrefl _) (kh rfl (kF (by omega)) ?_)
       refine kp rfl (wj rfl rfl (kF (by omega)) ?_)
       refine zC (k_cF rfl (kG (by omega)) (zQ (k_region (zA rfl ?_))))
       refine kz rfl (by unfold I64;omega) (zB rfl (zC ?_))
       exact⟨mm - 1,by omega,j+1,by omega,rfl,.c4 rfl rfl rfl rfl (.n6 rfl)⟩
     ·have hjl: ¬ (j:Int)<((zD A++zD B).length:Nat):=by rw[hlen2];omega
      refine zI _ _ hs6 hst6 fun fr6=>?_
      refine k_seq (kQ (zA rfl (zA rfl (yl rfl ty22 rfl rfl ?_))))
      refine kp rfl (zC (k_cF rfl (kG (by omega)) (yW ?_)))
      exact .inl ⟨rfl,rfl,.c4 rfl rfl rfl rfl (.n2 rfl)⟩
   ·subst e
    refine zI _ _ hs3 hst3 fun fr3=>?_
    refine kQ (zA rfl (ks rfl (zC (k_cF rfl rfl ?_))))
    refine zQ ?_
    exact .inl ⟨rfl,rfl,.c4 rfl rfl rfl rfl (.n2 rfl)⟩
  rintro s4 ⟨hst4,hs4⟩
  clear hst3 hs3 hml hf1 hf2 hE1 hE2
  have q48c:=ret48 (orc:=orc) hi n2 l.slots.length (by omega)
  have hab:=turnI_b (n:=n2) (b:=l.slots.length) (by omega)
  generalize zFC n2 l.slots.length=a at*
  have q49H:=fun x=>ret49 (orc:=orc) hi H x (by omega)
  have q49:=q49H a
  have hix:=zFf H a 0
  have hmo:=hmo a hab
  have hmr:=hmr a
  by_cases ca:a∈H
  ·rw[kF ca]at hix
   have hix:=of_decide_eq_true hix
   clear q49H
   generalize idxI H a 0=ix at*
   refine zI _ _ hs4 hst4 fun fr4=>?_
   refine kQ (yV rfl ty62 rfl rfl (by omega) (by omega) cl3 ?_)
   refine kA sh3 rfl (kw rfl yL (kA sh22 rfl (yl rfl ty22 rfl (List.length_map _) ?_)))
   refine zO rfl (q48c) (.lrefl _) (zB rfl (zC (k_seq (kQ (zA rfl (zA rfl (zO rfl (q49) (.lrefl _) (o_geq rfl rfl rfl (zC (k_cT rfl (by assumption) (kQ (zO rfl (r26) (.lrefl _) (zB rfl (zC (zg ?_)))))))))))))))
   refine⟨.inr rfl,_,.cons _ _ _ _ (.tmp 6) .nil,?_⟩
   exact .refl _
  ·rw[kG ca]at hix
   have hix:=of_decide_eq_false hix
   have hmo:=hmo ca
   generalize idxI H a 0=ix at*
   refine zI _ _ hs4 hst4 fun fr4=>?_
   refine kQ (yV rfl ty62 rfl rfl (by omega) (by omega) cl3 ?_)
   refine kA sh3 rfl (kw rfl yL (kA sh22 rfl (yl rfl ty22 rfl (List.length_map _) ?_)))
   refine zO rfl (q48c) (.lrefl _) (zB rfl (zC (k_seq (kQ (zA rfl (zA rfl (zO rfl (q49) (.lrefl _) (o_geq rfl rfl rfl (zC (k_cF rfl (by assumption) (zQ (kQ (zB rfl (zC ?_))))))))))))))
   refine zI [(1,.lst .ro 1 (zD H)),(3,U.box 0 0),(7,.int .i64 w),(15,.int .i64 ↑LN),(16,.int .i64 F),(20,.int .i64 a),(21,.lst .full 0 [])] ([SB.box (Ln.cs l),SB.box [.int .i64 n0,.int .i64 n1,.int .i64 n2]]) (.n7 rfl) rfl fun fr=>?_
   refine k_seq (kQ (zB rfl (zC (zM ?_))))
   clear q49
   refine wC (fun mm s5=>∃i:Nat,mm+i=l.slots.length∧s5.st=[.box l.cs,.box [.int .i64 n0,.int .i64 n1,.int .i64 n2]]∧Holds s5 [(1,.lst .ro 1 (zD H)),(3,.box 0 0),(7,.int .i64 w),(15,.int .i64 (LN:Nat)),(16,.int .i64 F),(20,.int .i64 a),(21,accI (memP (morF H a) i)),(22,.int .i64 i)]) (fun mm s5 hJ=>?_) l.slots.length _ ⟨0,rfl,rfl,.c4 rfl rfl rfl rfl (.n4 rfl)⟩
   obtain⟨i,hm5,hst5,hs5⟩:=hJ
   by_cases hin:i<l.slots.length
   ·have q49:=q49H i
    have hiy:=zFf H i 0
    have hsu:=zCO (morF H a) i
    have hml:=zAe (morF H a) i
    have hmf:morF H a i=(decide ((i:Int)=a)||decide ((i:Int)∈H)):=rfl
    refine zI _ _ hs5 hst5 fun fr5=>?_
    refine k_seq (kQ (zA rfl (kw rfl yL (kA sh22 rfl (yl rfl ty22 rfl (List.length_map _) ?_)))))
    refine kp rfl (zC (k_cT rfl (kF (by omega)) (zQ (k_seq (zM ?_)))))
    refine k_cut (fun s6=>s6.st=[.box l.cs,.box [.int .i64 n0,.int .i64 n1,.int .i64 n2]]∧Holds s6 [(1,.lst .ro 1 (zD H)),(3,.box 0 0),(7,.int .i64 w),(15,.int .i64 (LN:Nat)),(16,.int .i64 F),(20,.int .i64 a),(21,accI (memP (morF H a) i)),(22,.int .i64 i),(204,.bool (morF H a i))]) ?_ ?_
    ·clear hsu hml hs5 hst5 q49H
     generalize accI (memP (morF H a) i)=AA
     by_cases c1:(i:Int)=a
     ·rw[hmf,kF c1,Bool.true_or]
      refine k_region (zA rfl (zA rfl (ks rfl (zA rfl (kg rfl (kF (by omega)) (kg rfl (kF (by omega)) (kg rfl (kF (by omega)) (kg rfl (kF (by omega)) (wj rfl rfl (kF (by omega)) ?_)))))))))
      refine zC ?_
      exact⟨rfl,rfl,.c4 rfl rfl rfl rfl (.n5 rfl)⟩
     ·rw[kG c1,Bool.false_or,←hiy]at hmf
      rw[hmf]
      clear hmf hiy
      generalize idxI H i 0=iy at*
      refine k_region (zA rfl (zA rfl (ks rfl (zA rfl (kh rfl (kG (by omega)) (zA rfl (kh rfl (kG (by omega)) (zA rfl (kh rfl (kG (by omega)) (zO rfl (q49) (.lrefl _) (kh rfl (kG (by omega)) (o_geq rfl rfl rfl (wA rfl rfl (kG (by omega)) ?_)))))))))))))
      refine zC ?_
      exact⟨rfl,rfl,.c4 rfl rfl rfl rfl (.n5 rfl)⟩
    ·rintro s6 ⟨hst6,hs6⟩
     clear q49H q49 hiy hmf
     cases hct:morF H a i with
     |true=>
      rw[hct,if_pos rfl]at hsu
      rw[hct]at hs6
      generalize memP (morF H a) i=M at*
      cases M with
      |nil=>
       refine zI _ _ hs6 hst6 fun fr6=>?_
       refine k_cT rfl rfl ?_
       refine k_region (zA rfl (zA rfl (zFS (es:=[.int .i64 ↑i]) rfl ty22 ze3 cl3 rfl rfl rfl rfl rfl rfl rfl rfl ?_)))
       refine zFT rfl zEF rfl rfl (by simp) (by simp) (by simp[yE,zd,oneU]) (by simp) ?_
       refine zB rfl (zC (k_region (zA rfl ?_)))
       refine kz rfl (by unfold I64;omega) (zB rfl (zC ?_))
       exact⟨mm - 1,by omega,i+1,by omega,rfl,.c4 rfl rfl rfl rfl (.cons rfl (.cons rfl (.cons (by rw[hsu];rfl) (.n1 rfl))))⟩
      |cons y M=>
       refine zI _ _ hs6 hst6 fun fr6=>?_
       refine k_cT rfl rfl ?_
       refine k_region (zA rfl (zA rfl (zFS (es:=[.int .i64 ↑i]) rfl ty22 ze3 cl3 rfl rfl rfl rfl rfl rfl rfl rfl ?_)))
       refine o_appendS 21 rfl zEF rfl rfl rfl (by simp) (by simp) (by simp[yE,zd,oneU]) (by simp at hml ⊢;omega) ?_
       refine zB rfl (zC (k_region (zA rfl ?_)))
       refine kz rfl (by unfold I64;omega) (zB rfl (zC ?_))
       exact⟨mm - 1,by omega,i+1,by omega,rfl,.c4 rfl rfl rfl rfl (.cons rfl (.cons rfl (.cons (by rw[hsu,accI_snoc];rfl) (.n1 rfl))))⟩
     |false=>
      rw[hct,if_neg (by decide),List.append_nil]at hsu
      rw[hct]at hs6
      refine zI _ _ hs6 hst6 fun fr6=>?_
      refine k_cF rfl rfl ?_
      refine zQ (k_region (zA rfl ?_))
      refine kz rfl (by unfold I64;omega) (zB rfl (zC ?_))
      exact⟨mm - 1,by omega,i+1,by omega,rfl,.c4 rfl rfl rfl rfl (.cons rfl (.cons rfl (.cons (by rw[hsu];rfl) (.n1 rfl))))⟩
   ·have hie:i=l.slots.length:=by omega
    subst hie
    have hM:memP (morF H a) l.slots.length=morL l H a:=rfl
    rw[hM]at hs5
    have q31m:=ret31 (orc:=orc) hi l w (morL l H a)
    have hKc:=zCP hv hmr
    have hK:lstE l w (morL l H a)=0∨lstE l w (morL l H a)=4:=by rw[hKc];split<;>simp
    have hKo:=lst_out (l:=l) (w:=w) (H:=morL l H a)
    clear hKc hM hmr q49H
    generalize lstE l w (morL l H a)=K at*
    generalize lstN l w (morL l H a)=KN at*
    generalize morL l H a=M at*
    refine zI _ _ hs5 hst5 fun fr5=>?_
    refine k_seq (kQ (zA rfl (kw rfl yL (kA sh22 rfl (yl rfl ty22 rfl (List.length_map _) ?_)))))
    refine kp rfl (zC (k_cF rfl (kG (by omega)) (yW (kQ ?_))))
    refine o_weak 21 rfl (fun _=>rfl) (u:=.lst .ro 1 (zD M)) (accI_ro2 M) ?_
    rcases hK with e|e
    ·subst e
     obtain⟨e,hle⟩:=hmo rfl
     subst e
     refine kB sh24 rfl (zA rfl (zA rfl (zO rfl (q31m) (.lrefl _) (zA rfl (ku rfl (ku rfl (zB rfl (zB rfl (zC (kQ (zA rfl (ks rfl (zA rfl (kf rfl (zA rfl ?_)))))))))))))))
     refine kf rfl (ks rfl (kE rfl ?_))
     refine zA rfl (kf rfl (zA rfl (kf rfl (zA rfl ?_))))
     refine zT [(23,.int .i64 ↑KN),(24,.int .i64 0),(222,U.bool (decide ((0:Int)=(0:Int)))),(223,.int .i64 ↑KN),(224,.int .i64 ↑LN)] [] ([SB.box (Ln.cs l),SB.box [.int .i64 n0,.int .i64 n1,.int .i64 n2]]) (.n5 rfl) rfl rfl fun fr=>?_
     refine kf rfl ?_
     refine zT [(23,.int .i64 ↑KN),(24,.int .i64 0),(222,U.bool (decide ((0:Int)=(0:Int)))),(223,.int .i64 ↑KN),(224,.int .i64 ↑LN)] [] ([SB.box (Ln.cs l),SB.box [.int .i64 n0,.int .i64 n1,.int .i64 n2]]) (.n5 rfl) rfl rfl fun fr=>?_
     refine o_sub rfl rfl rfl (by unfold I64;omega) (kf rfl (o_geq rfl rfl rfl (kE rfl ?_)))
     refine zA rfl (kg rfl (kF (by omega)) (kg rfl (kF (by omega)) (kg rfl (kF (by omega)) (o_dead rfl rfl rfl rfl ?_))))
     refine o_dead rfl rfl rfl rfl ?_
     refine zT [(228,U.bool (decide (↑LN - (1:Int)≤ ↑KN))),(231,U.tup []),(233,U.tup [])] [] ([SB.box (Ln.cs l),SB.box [.int .i64 n0,.int .i64 n1,.int .i64 n2]]) (.n3 rfl) rfl rfl fun fr=>?_
     refine kg rfl (kF (by omega)) (wj rfl rfl (kF (by omega)) ?_)
     refine zA rfl (kf rfl (zO rfl (r26) (.lrefl _) (kE rfl ?_)))
     refine zB rfl (zC (zg ?_))
     refine⟨.inr rfl,_,.cons _ _ _ _ (.tmp 6) .nil,?_⟩
     exact .refl _
     done
    ·subst e
     have e:=hKo (by decide)
     subst e
     refine kB sh24 rfl (zA rfl (zA rfl (zO rfl (q31m) (.lrefl _) (zA rfl (ku rfl (ku rfl (zB rfl (zB rfl (zC (kQ (zA rfl (ks rfl (zA rfl (ke rfl (ke rfl ?_)))))))))))))))
     refine kD rfl ?_
     refine zA rfl (ke rfl (ke rfl ?_))
     refine zT [(23,.int .i64 ↑0),(24,.int .i64 4),(222,.bool false),(223,U.tup []),(224,U.tup [])] [] ([SB.box (Ln.cs l),SB.box [.int .i64 n0,.int .i64 n1,.int .i64 n2]]) (.n5 rfl) rfl rfl fun fr=>?_
     refine ke rfl (ke rfl (kD rfl ?_))
     refine zA rfl (kf rfl (zA rfl (kf rfl (ks rfl (kf rfl (zA rfl (kf rfl (zA rfl (kf rfl (ks rfl ?_))))))))))
     refine zT [(228,.bool false),(231,U.bool (decide ((4:Int)=(4:Int)))),(233,U.bool (decide ((0:Int)=(0:Int))))] [] ([SB.box (Ln.cs l),SB.box [.int .i64 n0,.int .i64 n1,.int .i64 n2]]) (.n3 rfl) rfl rfl fun fr=>?_
     refine kf rfl ?_
     refine zT [(228,.bool false),(231,U.bool (decide ((4:Int)=(4:Int)))),(233,U.bool (decide ((0:Int)=(0:Int))))] [] ([SB.box (Ln.cs l),SB.box [.int .i64 n0,.int .i64 n1,.int .i64 n2]]) (.n3 rfl) rfl rfl fun fr=>?_
     refine kE rfl ?_
     refine kD rfl ?_
     refine zA rfl (kf rfl (zO rfl (r26) (.lrefl _) (kE rfl ?_)))
     refine zB rfl (zC (zg ?_))
     refine⟨.inr rfl,_,.cons _ _ _ _ (.tmp 6) .nil,?_⟩
     exact .refl _
     done
 ·have hall:(misE l w H m=70∨misE l w H m=71)∧misE l w H (m+1)=misE l w H m∧lstE l w H=misE l w H m:=by
   unfold misE lstE
   by_cases v:yM l=true
   ·have r: ¬ yU l w H=true:=fun e=>hvr ⟨v,e⟩
    have r2:∀b, ¬ (yU l w H&&b)=true:=fun b e=>r (by rw[Bool.and_eq_true]at e;exact e.1)
    rw[if_pos v,if_pos v,if_pos v,if_neg (r2 _),if_neg (r2 _),if_neg r];simp
   ·rw[if_neg v,if_neg v,if_neg v];simp
  obtain⟨h1,h2,h3⟩:=hall
  have hne:misE l w H m≠0:=by omega
  obtain⟨a1,a2⟩:=mis_out hne
  obtain⟨a3,a4⟩:=mis_out (show misE l w H (m+1)≠0 by omega)
  have a5:=lst_out (show lstE l w H≠0 by omega)
  rw[a1,a2]at q29a
  rw[a3,a4,h2]at q29b
  rw[a5,h3]at q31
  have hz:([]:List Int).length=0:=rfl
  generalize misE l w H m=E at*
  rcases h1 with e|e
  ·subst e
   refine kQ (zx rfl rfl (zx rfl rfl (zB rfl (zC ?_))))
   refine zI [(1,.lst .ro 1 (zD H)),(3,U.box 0 0),(5,U.box 1 0)] ([SB.box [.lst .ro 1 (zD (Ln.slots l)),.int .i64 (Ln.left l),.int .i64 (Ln.right l),.int .i64 (Ln.run l)],SB.box [.int .i64 n0,.int .i64 n1,.int .i64 n2]]) (.n3 rfl) rfl fun fr=>?_
   refine k_seq (zAR [.plain,.read true,.read false,.plain,.read true,.plain,.plain,.plain] (by kernel_rfl) (by kernel_rfl) (by kernel_rfl) ?_)
   refine zE (yV rfl ty62 rfl rfl (by omega) (by omega) cl3 (zC rfl)) ?_
   refine wE rfl (kA sh3 rfl (zC rfl)) (zDE rfl (q48a) (.int _ _) (.lrefl _) ?_)
   refine zE (yV rfl ty62 rfl rfl (by omega) (by omega) cl3 (zC rfl)) ?_
   refine wE rfl (kA sh3 rfl (zC rfl)) (zE (zO rfl (q48b) (.lrefl _) (zC rfl)) ?_)
   refine zE (zB rfl (zC rfl)) ?_
   refine zE (zB rfl (zC rfl)) ?_
   refine zBk ?_
   refine kQ (kB sh24 rfl (zA rfl (zA rfl (zA rfl (zO rfl (q29a) (.lrefl _) (zA rfl (ku rfl (ku rfl (ku rfl (zB rfl (zB rfl (zB rfl (zC ?_)))))))))))))
   refine zI [(1,.lst .ro 1 (zD H)),(3,U.box 0 0),(5,U.box 1 0),(7,.int .i64 w),(8,.int .i64 m),(9,.lst .ro 1 (zD [])),(10,.lst .ro 1 (zD [])),(11,.int .i64 70)] ([SB.box [.lst .ro 1 (zD (Ln.slots l)),.int .i64 (Ln.left l),.int .i64 (Ln.right l),.int .i64 (Ln.run l)],SB.box [.int .i64 n0,.int .i64 n1,.int .i64 n2]]) (.n8 rfl) rfl fun fr=>?_
   refine kQ (kB sh24 rfl (zA rfl (zA rfl (zA rfl ?_))))
   refine kz rfl (by unfold I64;omega) (zO rfl (q29b) (.lrefl _) (zA rfl (ku rfl (ku rfl ?_))))
   refine zT [(1,.lst .ro 1 (zD H)),(3,U.box 0 0),(5,U.box 1 0),(7,.int .i64 w),(8,.int .i64 m),(9,.lst .ro 1 (zD [])),(10,.lst .ro 1 (zD [])),(11,.int .i64 70),(40,U.tup [.lst .ro 1 (zD []),.lst .ro 1 (zD []),.int .i64 70]),(47,.lst .ro 1 (zD [])),(48,.lst .ro 1 (zD []))] [] ([SB.box [.lst .ro 1 (zD (Ln.slots l)),.int .i64 (Ln.left l),.int .i64 (Ln.right l),.int .i64 (Ln.run l)],SB.box [.int .i64 n0,.int .i64 n1,.int .i64 n2]]) (.c4 rfl rfl rfl rfl (.n7 rfl)) rfl rfl fun fr=>?_
   refine ku rfl (zB rfl (zB rfl (zB rfl (zC ?_))))
   refine zI [(1,.lst .ro 1 (zD H)),(3,U.box 0 0),(5,U.box 1 0),(7,.int .i64 w),(8,.int .i64 m),(9,.lst .ro 1 (zD [])),(10,.lst .ro 1 (zD [])),(11,.int .i64 70),(12,.lst .ro 1 (zD [])),(13,.lst .ro 1 (zD [])),(14,.int .i64 70)] ([SB.box [.lst .ro 1 (zD (Ln.slots l)),.int .i64 (Ln.left l),.int .i64 (Ln.right l),.int .i64 (Ln.run l)],SB.box [.int .i64 n0,.int .i64 n1,.int .i64 n2]]) (.c4 rfl rfl rfl rfl (.n7 rfl)) rfl fun fr=>?_
   refine kQ (kB sh24 rfl (zA rfl (zA rfl (zO rfl (q31) (.lrefl _) (zA rfl (ku rfl (ku rfl (zB rfl (zB rfl (zC (k_seq (kQ (zA rfl (ks rfl (zA rfl ?_)))))))))))))))
   refine ke rfl (ke rfl (kE rfl ?_))
   refine zC ?_
   refine zI [(1,.lst .ro 1 (zD H)),(3,U.box 0 0),(5,U.box 1 0),(7,.int .i64 w),(8,.int .i64 m),(9,.lst .ro 1 (zD [])),(10,.lst .ro 1 (zD [])),(11,.int .i64 70),(12,.lst .ro 1 (zD [])),(13,.lst .ro 1 (zD [])),(14,.int .i64 70),(15,.int .i64 ↑0),(16,.int .i64 70),(62,.bool true)] ([SB.box [.lst .ro 1 (zD (Ln.slots l)),.int .i64 (Ln.left l),.int .i64 (Ln.right l),.int .i64 (Ln.run l)],SB.box [.int .i64 n0,.int .i64 n1,.int .i64 n2]]) (.c4 rfl rfl rfl rfl (.n10 rfl)) rfl fun fr=>?_
   refine k_cT rfl rfl ?_
   refine kQ (zA rfl (zA rfl (ks rfl (zA rfl (kf rfl (zA rfl (kf rfl (zA rfl (kf rfl (ks rfl (kE rfl ?_)))))))))))
   refine zA rfl ?_
   refine zT [(9,.lst .ro 1 (zD [])),(10,.lst .ro 1 (zD [])),(12,.lst .ro 1 (zD [])),(13,.lst .ro 1 (zD [])),(15,.int .i64 0),(71,U.bool (decide ((70:Int)=(70:Int))))] [] ([SB.box [.lst .ro 1 (zD (Ln.slots l)),.int .i64 (Ln.left l),.int .i64 (Ln.right l),.int .i64 (Ln.run l)],SB.box [.int .i64 n0,.int .i64 n1,.int .i64 n2]]) (.n6 rfl) rfl rfl fun fr=>?_
   refine kf rfl ?_
   refine zT [(9,.lst .ro 1 (zD [])),(10,.lst .ro 1 (zD [])),(12,.lst .ro 1 (zD [])),(13,.lst .ro 1 (zD [])),(15,.int .i64 0),(71,U.bool (decide ((70:Int)=(70:Int))))] [] ([SB.box [.lst .ro 1 (zD (Ln.slots l)),.int .i64 (Ln.left l),.int .i64 (Ln.right l),.int .i64 (Ln.run l)],SB.box [.int .i64 n0,.int .i64 n1,.int .i64 n2]]) (.n6 rfl) rfl rfl fun fr=>?_
   refine zA rfl (kf rfl (ks rfl (kE rfl ?_)))
   refine zA rfl (kf rfl (zA rfl (kf rfl (yl rfl ty22 rfl (List.length_map _) ?_))))
   refine kf rfl (zA rfl (kf rfl (yl rfl ty22 rfl (List.length_map _) ?_)))
   refine kf rfl ?_
   refine kz rfl (by unfold I64;omega) ?_
   refine zT [(12,.lst .ro 1 (zD [])),(13,.lst .ro 1 (zD [])),(75,U.bool (decide ((0:Int)=(0:Int)))),(80,.int .i64 (↑(List.length [])+ ↑(List.length [])))] [] ([SB.box [.lst .ro 1 (zD (Ln.slots l)),.int .i64 (Ln.left l),.int .i64 (Ln.right l),.int .i64 (Ln.run l)],SB.box [.int .i64 n0,.int .i64 n1,.int .i64 n2]]) (.n4 rfl) rfl rfl fun fr=>?_
   refine kf rfl ?_
   refine zT [(12,.lst .ro 1 (zD [])),(13,.lst .ro 1 (zD [])),(75,U.bool (decide ((0:Int)=(0:Int)))),(80,.int .i64 (↑(List.length [])+ ↑(List.length [])))] [] ([SB.box [.lst .ro 1 (zD (Ln.slots l)),.int .i64 (Ln.left l),.int .i64 (Ln.right l),.int .i64 (Ln.run l)],SB.box [.int .i64 n0,.int .i64 n1,.int .i64 n2]]) (.n4 rfl) rfl rfl fun fr=>?_
   refine zA rfl (kf rfl (yl rfl ty22 rfl (List.length_map _) ?_))
   refine kf rfl ?_
   refine kz rfl (by unfold I64;omega) (kf rfl (zA rfl (kf rfl (yl rfl ty22 rfl (List.length_map _) ?_))))
   refine kf rfl ?_
   refine kz rfl (by unfold I64;omega) (kf rfl (ks rfl (kE rfl ?_)))
   refine zA rfl ?_
   refine zT [(89,U.bool (decide (↑(List.length [])+ ↑(List.length [])+ ↑(List.length [])+ ↑(List.length [])=(0:Int))))] [] ([SB.box [.lst .ro 1 (zD (Ln.slots l)),.int .i64 (Ln.left l),.int .i64 (Ln.right l),.int .i64 (Ln.run l)],SB.box [.int .i64 n0,.int .i64 n1,.int .i64 n2]]) (.n1 rfl) rfl rfl fun fr=>?_
   refine kf rfl ?_
   refine zT [(89,U.bool (decide (↑(List.length [])+ ↑(List.length [])+ ↑(List.length [])+ ↑(List.length [])=(0:Int))))] [] ([SB.box [.lst .ro 1 (zD (Ln.slots l)),.int .i64 (Ln.left l),.int .i64 (Ln.right l),.int .i64 (Ln.run l)],SB.box [.int .i64 n0,.int .i64 n1,.int .i64 n2]]) (.n1 rfl) rfl rfl fun fr=>?_
   refine zO rfl (r26) (.lrefl _) (kE rfl ?_)
   refine zB rfl (zC (zg ?_))
   refine⟨.inr rfl,_,.cons _ _ _ _ (.tmp 6) .nil,?_⟩
   exact .refl _
  ·subst e
   refine kQ (zx rfl rfl (zx rfl rfl (zB rfl (zC ?_))))
   refine zI [(1,.lst .ro 1 (zD H)),(3,U.box 0 0),(5,U.box 1 0)] ([SB.box [.lst .ro 1 (zD (Ln.slots l)),.int .i64 (Ln.left l),.int .i64 (Ln.right l),.int .i64 (Ln.run l)],SB.box [.int .i64 n0,.int .i64 n1,.int .i64 n2]]) (.n3 rfl) rfl fun fr=>?_
   refine k_seq (zAR [.plain,.read true,.read false,.plain,.read true,.plain,.plain,.plain] (by kernel_rfl) (by kernel_rfl) (by kernel_rfl) ?_)
   refine zE (yV rfl ty62 rfl rfl (by omega) (by omega) cl3 (zC rfl)) ?_
   refine wE rfl (kA sh3 rfl (zC rfl)) (zDE rfl (q48a) (.int _ _) (.lrefl _) ?_)
   refine zE (yV rfl ty62 rfl rfl (by omega) (by omega) cl3 (zC rfl)) ?_
   refine wE rfl (kA sh3 rfl (zC rfl)) (zE (zO rfl (q48b) (.lrefl _) (zC rfl)) ?_)
   refine zE (zB rfl (zC rfl)) ?_
   refine zE (zB rfl (zC rfl)) ?_
   refine zBk ?_
   refine kQ (kB sh24 rfl (zA rfl (zA rfl (zA rfl (zO rfl (q29a) (.lrefl _) (zA rfl (ku rfl (ku rfl (ku rfl (zB rfl (zB rfl (zB rfl (zC ?_)))))))))))))
   refine zI [(1,.lst .ro 1 (zD H)),(3,U.box 0 0),(5,U.box 1 0),(7,.int .i64 w),(8,.int .i64 m),(9,.lst .ro 1 (zD [])),(10,.lst .ro 1 (zD [])),(11,.int .i64 71)] ([SB.box [.lst .ro 1 (zD (Ln.slots l)),.int .i64 (Ln.left l),.int .i64 (Ln.right l),.int .i64 (Ln.run l)],SB.box [.int .i64 n0,.int .i64 n1,.int .i64 n2]]) (.n8 rfl) rfl fun fr=>?_
   refine kQ (kB sh24 rfl (zA rfl (zA rfl (zA rfl ?_))))
   refine kz rfl (by unfold I64;omega) (zO rfl (q29b) (.lrefl _) (zA rfl (ku rfl (ku rfl ?_))))
   refine zT [(1,.lst .ro 1 (zD H)),(3,U.box 0 0),(5,U.box 1 0),(7,.int .i64 w),(8,.int .i64 m),(9,.lst .ro 1 (zD [])),(10,.lst .ro 1 (zD [])),(11,.int .i64 71),(40,U.tup [.lst .ro 1 (zD []),.lst .ro 1 (zD []),.int .i64 71]),(47,.lst .ro 1 (zD [])),(48,.lst .ro 1 (zD []))] [] ([SB.box [.lst .ro 1 (zD (Ln.slots l)),.int .i64 (Ln.left l),.int .i64 (Ln.right l),.int .i64 (Ln.run l)],SB.box [.int .i64 n0,.int .i64 n1,.int .i64 n2]]) (.c4 rfl rfl rfl rfl (.n7 rfl)) rfl rfl fun fr=>?_
   refine ku rfl (zB rfl (zB rfl (zB rfl (zC ?_))))
   refine zI [(1,.lst .ro 1 (zD H)),(3,U.box 0 0),(5,U.box 1 0),(7,.int .i64 w),(8,.int .i64 m),(9,.lst .ro 1 (zD [])),(10,.lst .ro 1 (zD [])),(11,.int .i64 71),(12,.lst .ro 1 (zD [])),(13,.lst .ro 1 (zD [])),(14,.int .i64 71)] ([SB.box [.lst .ro 1 (zD (Ln.slots l)),.int .i64 (Ln.left l),.int .i64 (Ln.right l),.int .i64 (Ln.run l)],SB.box [.int .i64 n0,.int .i64 n1,.int .i64 n2]]) (.c4 rfl rfl rfl rfl (.n7 rfl)) rfl fun fr=>?_
   refine kQ (kB sh24 rfl (zA rfl (zA rfl (zO rfl (q31) (.lrefl _) (zA rfl (ku rfl (ku rfl (zB rfl (zB rfl (zC (k_seq (kQ (zA rfl (ks rfl (zA rfl ?_)))))))))))))))
   refine kf rfl (zA rfl (kf rfl (ks rfl (kD rfl ?_))))
   refine zC ?_
   refine zI [(1,.lst .ro 1 (zD H)),(3,U.box 0 0),(5,U.box 1 0),(7,.int .i64 w),(8,.int .i64 m),(9,.lst .ro 1 (zD [])),(10,.lst .ro 1 (zD [])),(11,.int .i64 71),(12,.lst .ro 1 (zD [])),(13,.lst .ro 1 (zD [])),(14,.int .i64 71),(15,.int .i64 ↑0),(16,.int .i64 71),(62,U.bool (decide ((71:Int)=(71:Int))))] ([SB.box [.lst .ro 1 (zD (Ln.slots l)),.int .i64 (Ln.left l),.int .i64 (Ln.right l),.int .i64 (Ln.run l)],SB.box [.int .i64 n0,.int .i64 n1,.int .i64 n2]]) (.c4 rfl rfl rfl rfl (.n10 rfl)) rfl fun fr=>?_
   refine k_cT rfl rfl ?_
   refine kQ (zA rfl (zA rfl (ks rfl (zA rfl (kf rfl (zA rfl (kf rfl (zA rfl (kf rfl (ks rfl (kE rfl ?_)))))))))))
   refine zA rfl ?_
   refine zT [(9,.lst .ro 1 (zD [])),(10,.lst .ro 1 (zD [])),(12,.lst .ro 1 (zD [])),(13,.lst .ro 1 (zD [])),(15,.int .i64 0),(71,U.bool (decide ((71:Int)=(71:Int))))] [] ([SB.box [.lst .ro 1 (zD (Ln.slots l)),.int .i64 (Ln.left l),.int .i64 (Ln.right l),.int .i64 (Ln.run l)],SB.box [.int .i64 n0,.int .i64 n1,.int .i64 n2]]) (.n6 rfl) rfl rfl fun fr=>?_
   refine kf rfl ?_
   refine zT [(9,.lst .ro 1 (zD [])),(10,.lst .ro 1 (zD [])),(12,.lst .ro 1 (zD [])),(13,.lst .ro 1 (zD [])),(15,.int .i64 0),(71,U.bool (decide ((71:Int)=(71:Int))))] [] ([SB.box [.lst .ro 1 (zD (Ln.slots l)),.int .i64 (Ln.left l),.int .i64 (Ln.right l),.int .i64 (Ln.run l)],SB.box [.int .i64 n0,.int .i64 n1,.int .i64 n2]]) (.n6 rfl) rfl rfl fun fr=>?_
   refine zA rfl (kf rfl (ks rfl (kE rfl ?_)))
   refine zA rfl (kf rfl (zA rfl (kf rfl (yl rfl ty22 rfl (List.length_map _) ?_))))
   refine kf rfl (zA rfl (kf rfl (yl rfl ty22 rfl (List.length_map _) ?_)))
   refine kf rfl ?_
   refine kz rfl (by unfold I64;omega) ?_
   refine zT [(12,.lst .ro 1 (zD [])),(13,.lst .ro 1 (zD [])),(75,U.bool (decide ((0:Int)=(0:Int)))),(80,.int .i64 (↑(List.length [])+ ↑(List.length [])))] [] ([SB.box [.lst .ro 1 (zD (Ln.slots l)),.int .i64 (Ln.left l),.int .i64 (Ln.right l),.int .i64 (Ln.run l)],SB.box [.int .i64 n0,.int .i64 n1,.int .i64 n2]]) (.n4 rfl) rfl rfl fun fr=>?_
   refine kf rfl ?_
   refine zT [(12,.lst .ro 1 (zD [])),(13,.lst .ro 1 (zD [])),(75,U.bool (decide ((0:Int)=(0:Int)))),(80,.int .i64 (↑(List.length [])+ ↑(List.length [])))] [] ([SB.box [.lst .ro 1 (zD (Ln.slots l)),.int .i64 (Ln.left l),.int .i64 (Ln.right l),.int .i64 (Ln.run l)],SB.box [.int .i64 n0,.int .i64 n1,.int .i64 n2]]) (.n4 rfl) rfl rfl fun fr=>?_
   refine zA rfl (kf rfl (yl rfl ty22 rfl (List.length_map _) ?_))
   refine kf rfl ?_
   refine kz rfl (by unfold I64;omega) (kf rfl (zA rfl (kf rfl (yl rfl ty22 rfl (List.length_map _) ?_))))
   refine kf rfl ?_
   refine kz rfl (by unfold I64;omega) (kf rfl (ks rfl (kE rfl ?_)))
   refine zA rfl ?_
   refine zT [(89,U.bool (decide (↑(List.length [])+ ↑(List.length [])+ ↑(List.length [])+ ↑(List.length [])=(0:Int))))] [] ([SB.box [.lst .ro 1 (zD (Ln.slots l)),.int .i64 (Ln.left l),.int .i64 (Ln.right l),.int .i64 (Ln.run l)],SB.box [.int .i64 n0,.int .i64 n1,.int .i64 n2]]) (.n1 rfl) rfl rfl fun fr=>?_
   refine kf rfl ?_
   refine zT [(89,U.bool (decide (↑(List.length [])+ ↑(List.length [])+ ↑(List.length [])+ ↑(List.length [])=(0:Int))))] [] ([SB.box [.lst .ro 1 (zD (Ln.slots l)),.int .i64 (Ln.left l),.int .i64 (Ln.right l),.int .i64 (Ln.run l)],SB.box [.int .i64 n0,.int .i64 n1,.int .i64 n2]]) (.n1 rfl) rfl rfl fun fr=>?_
   refine zO rfl (r26) (.lrefl _) (kE rfl ?_)
   refine zB rfl (zC (zg ?_))
   refine⟨.inr rfl,_,.cons _ _ _ _ (.tmp 6) .nil,?_⟩
   exact .refl _
end
end Go.Proofs.YthhbfbmfhldbaaaDoor.locks
