import Derived.Test.YthhbfbmfhldbaaaDoorVamT23
set_option linter.unusedVariables false
set_option linter.unusedSimpArgs false
set_option linter.constructorNameAsVariable false
namespace Go.Proofs.YthhbfbmfhldbaaaDoor.locks
open Vam
variable {is:FuncId→Bool}{orc:Known}{l:Ln}
theorem ty62:tyOf Tryd.prog 62=.array 3 3:=by kernel_rfl
theorem ze24:yF Tryd.prog 24=some ((.cons .nils (.cons (.int .i64 0) (.cons (.int .i64 0) (.cons (.int .i64 0) .nil)))):V):=by kernel_rfl
noncomputable def b9:Code:=(Tryd.f9.body).getD .skip
theorem body9:bodyOf Tryd.prog 9=some (194,b9,[.tmp 4]):=by kernel_rfl
theorem pure9:pureFn Tryd.prog 9=true:=by kernel_rfl
theorem zCz(h:VL l):manE l=0∧manN l=(splL l).length:=by
 unfold manE manN
 rw[if_pos (wF.2 h),if_pos (wF.2 h)];exact⟨rfl,rfl⟩
theorem for_spl(h:VL l):forE l=splE l:=by
 unfold forE splE
 rw[if_pos (wF.2 h),if_pos (wF.2 h)]
 cases hb:bstO (splL l)with
 |none=>rw[none_spl h hb];rfl
 |some b=>
  have:=List.length_pos_of_mem (zDU hb).1
  rw[if_neg (by omega)];rfl
theorem tur_facts(h:VL l):splE (xchL l)=splE l∧forE (xchL l)=splE l∧dfI (splR (xchL l))=dfI (splR l)∧forR (xchL l)=forR l∧(splR l).length≤16∧(splR (xchL l)).length≤16∧(forR l).length≤16:=by
 have hv:=zEQ h
 obtain⟨h1,h2⟩:=bst_fl h
 have e1:splE (xchL l)=splE l:=by
  unfold splE
  rw[if_pos (wF.2 h),if_pos (wF.2 hv),h1]
 have e2:=(for_spl hv).trans e1
 have hlen:∀m:Ln,VL m→(splR m).length≤16:=fun m hm=>by
  have:=hm.n
  unfold splR
  by_cases c:splE m=0
  ·rw[if_pos c]
   cases hb:bstO (splL m)with
   |none=>exact Nat.zero_le _
   |some b=>have:=spl_len hm (zDU hb).1;show b.length≤16;omega
  ·rw[if_neg c];exact Nat.zero_le _
 refine⟨e1,e2,?_,?_,hlen l h,hlen _ hv,?_⟩
 ·unfold splR
  rw[e1]
  by_cases c:splE l=0
  ·rw[if_pos c,if_pos c]
   cases hb:bstO (splL l)with
   |none=>
    cases hc:bstO (splL (xchL l))with
    |none=>rfl
    |some d=>rw[hb,hc]at h1;cases h1
   |some b=>
    cases hc:bstO (splL (xchL l))with
    |none=>rw[hb,hc]at h1;cases h1
    |some d=>exact h2 b d hb hc
  ·rw[if_neg c,if_neg c]
 ·unfold forR
  rw[e2,for_spl h,show fcF (xchL l)=fcF l from funext (fc_fl h)]
 ·unfold forR
  by_cases c:forE l=0
  ·rw[if_pos c];exact zBp _ _
  ·rw[if_neg c];exact Nat.zero_le _
theorem int_drop(s:List Int)(f:Nat):(zF s).drop f=zF (s.drop f):=(List.map_drop).symm
theorem int_take(s:List Int)(f:Nat):(zF s).take f=zF (s.take f):=(List.map_take).symm
theorem rot_uw(s:List Int)(f:Nat):UW (.u (.lst .own 1 ((zF s).drop f++(zF s).take f))) (.u (.lst .ro 1 (zF (rotI s f)))):=by
 rw[show(zF s).drop f++(zF s).take f=zF (rotI s f) by rw[int_drop,int_take];exact(List.map_append).symm]
 exact .ro _ _ _
set_option maxHeartbeats 32000000 in
theorem ret9(hi:Off is)(l:Ln)(n0 n1 n2:Int)(r26:RetP Tryd.prog is orc 26 [] (.bool true)):RetP Tryd.prog is orc 9 [l.u,.agg [.int .i64 n0,.int .i64 n1,.int .i64 n2]] (.bool true):=by
 refine yY body9 pure9 (hi 9 (by decide)) rfl rfl (zAs (wq l 5) (.agg _ _ (dat_l3 (k:=7) (.int _ _ _) (.int _ _ _) (.int _ _ _)))) (.inl (.bool _ _)) ?_
 have q41:=ret41 (orc:=orc) hi l
 cases hv:yz l with
 |false=>
  rw[hv]at q41
  refine kQ (yG rfl rfl (yG rfl rfl (zB rfl (zA ?_))))
  refine zM [(2,U.box 0 0),(3,U.box 1 0)] ([SB.box [.lst .ro 1 (zF (Ln.slots l)),.int .i64 (Ln.left l),.int .i64 (Ln.right l),.int .i64 (Ln.run l)],SB.box [.int .i64 n0,.int .i64 n1,.int .i64 n2]]) (.n2 rfl) rfl fun fr=>?_
  refine k_seq (kQ (kB sh24 rfl (zQ rfl (q41) (.lrefl _) (zAY rfl rfl (zA (k_cT rfl rfl ?_))))))
  refine kQ (zQ rfl (r26) (.lrefl _) (zB rfl (zA (zk ?_))))
  refine⟨.inr rfl,_,.cons _ _ _ _ (.tmp 4) .nil,?_⟩
  exact .refl _
 |true=>
  have h:=wF.1 hv
  have hn:=h.n
  have hrn:=h.rn
  rw[hv]at q41
  have q48a:=ret48 (orc:=orc) hi n0 4 (by decide)
  have q48b:=ret48 (orc:=orc) hi n1 256 (by decide)
  have q48c:=ret48 (orc:=orc) hi n2 l.slots.length (by omega)
  have ha:=turnI_b (n:=n0) (b:=4) (by decide)
  have hb:=turnI_b (n:=n1) (b:=256) (by decide)
  have hc:=turnI_b (n:=n2) (b:=(l.slots.length:Int)) (by omega)
  generalize zFI n0 4=a at*
  generalize zFI n1 256=c at*
  generalize zFI n2 l.slots.length=f0 at*
  obtain⟨f,rfl⟩:∃f:Nat,f0=f:=⟨f0.toNat,by omega⟩
  have hmn:l.run≤min 16 (l.run+a)∧min 16 (l.run+a)≤16:=by omega
  obtain⟨v1,p1⟩:=many_run h hmn
  obtain⟨v2,p2⟩:=many_tone h (c:=c) (by omega)
  have v3:=rot_vl h f
  have p3:=many_rot h (f:=f) (by omega)
  have v4:=zEQ h
  have p4:=many_fl h
  have q19:=ret19 (orc:=orc) hi l
  have q19x:=ret19 (orc:=orc) hi (xchL l)
  have q19y:=ret19 (orc:=orc) hi ⟨l.slots,l.left,l.right,min 16 (l.run+a)⟩
  have q19z:=ret19 (orc:=orc) hi ⟨l.slots,orZ l.left c,l.right,l.run⟩
  have q19u:=ret19 (orc:=orc) hi (rotN l f)
  rw[(zCz h).1,(zCz h).2]at q19
  rw[(zCz v4).1,(zCz v4).2,p4]at q19x
  rw[(zCz v1).1,(zCz v1).2]at q19y
  rw[(zCz v2).1,(zCz v2).2]at q19z
  rw[(zCz v3).1,(zCz v3).2,p3]at q19u
  generalize (splL l).length=N at*
  generalize (splL ⟨l.slots,l.left,l.right,min 16 (l.run+a)⟩).length=N1 at*
  generalize (splL ⟨l.slots,orZ l.left c,l.right,l.run⟩).length=N2 at*
  have k1:decide ((N:Int)≠N)=false:=kG (fun e=>e rfl)
  have k2:decide ((N1:Int)<N)=false:=kG (by omega)
  have k3:decide ((N2:Int)<N)=false:=kG (by omega)
  have q21:=ret21 (orc:=orc) hi l
  have q21x:=ret21 (orc:=orc) hi (xchL l)
  have q24:=ret24 (orc:=orc) hi l
  have q24x:=ret24 (orc:=orc) hi (xchL l)
  obtain⟨t1,t2,t3,t4,t5,t6,t7⟩:=tur_facts h
  rw[t1]at q21x
  rw[for_spl h]at q24
  rw[t2,t4]at q24x
  have q45a:=ret45 (orc:=orc) hi (p:=splR l) (by omega) 0
  have q45b:=ret45 (orc:=orc) hi (p:=splR l) (by omega) 1
  have q45c:=ret45 (orc:=orc) hi (p:=splR (xchL l)) (by omega) 0
  have q45d:=ret45 (orc:=orc) hi (p:=splR (xchL l)) (by omega) 1
  have l1:=prt_len (splR l) 0
  have l2:=prt_len (splR l) 1
  have l3:=prt_len (splR (xchL l)) 0
  have l4:=prt_len (splR (xchL l)) 1
  have q44a:=ret44 (orc:=orc) hi (n:=((prtL (splR l) 0).length:Int) - (prtL (splR l) 1).length) (by omega)
  have q44b:=ret44 (orc:=orc) hi (n:=((prtL (splR (xchL l)) 0).length:Int) - (prtL (splR (xchL l)) 1).length) (by omega)
  rw[plain_df]at q44a q44b
  rw[t3]at q44b
  have q23:=ret23 (orc:=orc) hi (forR l) (by omega)
  have k5:∀E:Int,decide (E=E)=true:=fun E=>kF rfl
  have k4:=k5 (splE l)
  have k6:=k5 (dfI (splR l))
  clear k5 t1 t2 t3 t4 v1 v2 v3 v4 p1 p2 p3 p4
  generalize splE l=E at*
  generalize dfI (splR l)=D at*
  generalize prtL (splR l) 0=P1 at*
  generalize prtL (splR l) 1=P2 at*
  generalize prtL (splR (xchL l)) 0=P3 at*
  generalize prtL (splR (xchL l)) 1=P4 at*
  generalize splR l=S at*
  generalize splR (xchL l)=T at*
  generalize forR l=R at*
  refine kQ (yG rfl rfl (yG rfl rfl (zB rfl (zA ?_))))
  refine zM [(2,U.box 0 0),(3,U.box 1 0)] ([SB.box [.lst .ro 1 (zF (Ln.slots l)),.int .i64 (Ln.left l),.int .i64 (Ln.right l),.int .i64 (Ln.run l)],SB.box [.int .i64 n0,.int .i64 n1,.int .i64 n2]]) (.n2 rfl) rfl fun fr=>?_
  refine k_seq (kQ (kB sh24 rfl (zQ rfl (q41) (.lrefl _) (zAY rfl rfl (zA (k_cF rfl rfl ?_))))))
  refine zU (k_seq (k_drawA [.read true,.read true,.read true,.read true,.pre,.pre,.pre,.pre,.plain,.plain,.plain,.plain] [(2,5),(2,5),(2,5),(2,6),(2,6),(2,7)] (by kernel_rfl) (by kernel_rfl) (by kernel_rfl) ?_))
  refine yM rfl (kB sh24 rfl (zA rfl)) ?_
  refine yM rfl (kB sh24 rfl (zA rfl)) ?_
  refine yM rfl (kB sh24 rfl (zA rfl)) ?_
  refine yM rfl (kB sh24 rfl (zA rfl)) ?_
  refine d_pre rfl ze24 ?_
  refine d_pre rfl ze24 ?_
  refine d_pre rfl ze24 ?_
  refine d_pre rfl ze24 ?_
  refine zD (yS rfl rfl sh24 rfl rfl rfl rfl rfl (zA rfl)) ?_
  refine zD (yS rfl rfl sh24 rfl rfl rfl rfl rfl (zA rfl)) ?_
  refine zD (yS rfl rfl sh24 rfl rfl rfl rfl rfl (zA rfl)) ?_
  refine zD (yS rfl rfl sh24 rfl rfl rfl rfl rfl (zA rfl)) ?_
  refine zAt ⟨fun p hp=>by simp only[List.mem_cons,List.not_mem_nil,or_false]at hp;rcases hp with rfl|rfl|rfl|rfl|rfl|rfl<;>exact⟨_,_,_,_,_,rfl,rfl,Nat.ne_of_beq_eq_false rfl,rfl⟩,?_⟩
  refine zM [(2,U.box 0 0),(3,U.box 1 0),(5,U.box 2 0),(6,U.box 3 0),(7,U.box 4 0),(8,U.box 5 0)] ([SB.box [.lst .ro 1 (zF (Ln.slots l)),.int .i64 (Ln.left l),.int .i64 (Ln.right l),.int .i64 (Ln.run l)],SB.box [.int .i64 n0,.int .i64 n1,.int .i64 n2],SB.box [.lst .ro 1 (zF (Ln.slots l)),.int .i64 (Ln.left l),.int .i64 (Ln.right l),.int .i64 (Ln.run l)],SB.box [.lst .ro 1 (zF (Ln.slots l)),.int .i64 (Ln.left l),.int .i64 (Ln.right l),.int .i64 (Ln.run l)],SB.box [.lst .ro 1 (zF (Ln.slots l)),.int .i64 (Ln.left l),.int .i64 (Ln.right l),.int .i64 (Ln.run l)],SB.box [.lst .ro 1 (zF (Ln.slots l)),.int .i64 (Ln.left l),.int .i64 (Ln.right l),.int .i64 (Ln.run l)]]) (.n6 rfl) rfl fun fr=>?_
  refine k_seq (k_drawA [.plain,.read true,.plain,.read true,.plain,.plain,.plain,.plain] [(34,36)] (by kernel_rfl) (by kernel_rfl) (by kernel_rfl) ?_)
  refine zD (kw rfl zEF (zA rfl)) ?_
  refine yM rfl (kA sh3 rfl (zA rfl)) (zD (kw rfl zBq (zA rfl)) ?_)
  refine yM rfl (kA sh3 rfl (zA rfl)) (zD (kw rfl zBq (zA rfl)) ?_)
  refine zD (ye rfl rfl sh3 rfl rfl (zA rfl)) ?_
  refine zD (kw rfl zEF (zA rfl)) ?_
  refine zD (ye rfl rfl sh3 rfl rfl (zA rfl)) ?_
  refine zAt ⟨fun p hp=>by simp only[List.mem_cons,List.not_mem_nil,or_false]at hp;rcases hp with rfl<;>exact⟨_,_,_,_,_,rfl,rfl,Nat.ne_of_beq_eq_false rfl,rfl⟩,?_⟩
  refine zM [(2,U.box 0 0),(3,U.box 1 0),(5,U.box 2 0),(6,U.box 3 0),(7,U.box 4 0),(8,U.box 5 0)] ([SB.box [.lst .ro 1 (zF (Ln.slots l)),.int .i64 (Ln.left l),.int .i64 (Ln.right l),.int .i64 (Ln.run l)],SB.box [.int .i64 n0,.int .i64 n1,.int .i64 n2],SB.box [.lst .ro 1 (zF (Ln.slots l)),.int .i64 (Ln.right l),.int .i64 (Ln.left l),.int .i64 (Ln.run l)],SB.box [.lst .ro 1 (zF (Ln.slots l)),.int .i64 (Ln.left l),.int .i64 (Ln.right l),.int .i64 (Ln.run l)],SB.box [.lst .ro 1 (zF (Ln.slots l)),.int .i64 (Ln.left l),.int .i64 (Ln.right l),.int .i64 (Ln.run l)],SB.box [.lst .ro 1 (zF (Ln.slots l)),.int .i64 (Ln.left l),.int .i64 (Ln.right l),.int .i64 (Ln.run l)]]) (.n6 rfl) rfl fun fr=>?_
  refine k_seq (wa [.plain,.read true,.plain,.read true,.read false,.plain,.plain,.plain,.plain] (by kernel_rfl) (by kernel_rfl) (by kernel_rfl) ?_)
  refine zD (kw rfl zAZ (zA rfl)) ?_
  refine yM rfl (kA sh3 rfl (zA rfl)) (zD (yV rfl ty62 rfl rfl (by omega) (by omega) cl3 (zA rfl)) ?_)
  refine yM rfl (kA sh3 rfl (zA rfl)) (zFu rfl (q48a) (.int _ _) (.lrefl _) ?_)
  refine zD (kz rfl (by unfold I64;omega) (zA rfl)) ?_
  refine zD (o_min rfl rfl rfl (zA rfl)) ?_
  refine zD (kw rfl zAZ (zA rfl)) ?_
  refine zD (ye rfl rfl sh3 rfl rfl (zA rfl)) ?_
  refine zAt ?_
  refine zM [(2,U.box 0 0),(3,U.box 1 0),(5,U.box 2 0),(6,U.box 3 0),(7,U.box 4 0),(8,U.box 5 0)] ([SB.box [.lst .ro 1 (zF (Ln.slots l)),.int .i64 (Ln.left l),.int .i64 (Ln.right l),.int .i64 (Ln.run l)],SB.box [.int .i64 n0,.int .i64 n1,.int .i64 n2],SB.box [.lst .ro 1 (zF (Ln.slots l)),.int .i64 (Ln.right l),.int .i64 (Ln.left l),.int .i64 (Ln.run l)],SB.box [.lst .ro 1 (zF (Ln.slots l)),.int .i64 (Ln.left l),.int .i64 (Ln.right l),.int .i64 (Min.min (16:Int) (Ln.run l+a))],SB.box [.lst .ro 1 (zF (Ln.slots l)),.int .i64 (Ln.left l),.int .i64 (Ln.right l),.int .i64 (Ln.run l)],SB.box [.lst .ro 1 (zF (Ln.slots l)),.int .i64 (Ln.left l),.int .i64 (Ln.right l),.int .i64 (Ln.run l)]]) (.n6 rfl) rfl fun fr=>?_
  refine k_seq (wa [.plain,.read true,.plain,.read true,.read false,.plain,.plain,.plain] (by kernel_rfl) (by kernel_rfl) (by kernel_rfl) ?_)
  refine zD (kw rfl zBq (zA rfl)) ?_
  refine yM rfl (kA sh3 rfl (zA rfl)) (zD (yV rfl ty62 rfl rfl (by omega) (by omega) cl3 (zA rfl)) ?_)
  refine yM rfl (kA sh3 rfl (zA rfl)) (zFu rfl (q48b) (.int _ _) (.lrefl _) ?_)
  refine zD (o_orZ rfl rfl rfl (zA rfl)) ?_
  refine zD (kw rfl zBq (zA rfl)) ?_
  refine zD (ye rfl rfl sh3 rfl rfl (zA rfl)) ?_
  refine zAt ?_
  refine zM [(2,U.box 0 0),(3,U.box 1 0),(5,U.box 2 0),(6,U.box 3 0),(7,U.box 4 0),(8,U.box 5 0)] ([SB.box [.lst .ro 1 (zF (Ln.slots l)),.int .i64 (Ln.left l),.int .i64 (Ln.right l),.int .i64 (Ln.run l)],SB.box [.int .i64 n0,.int .i64 n1,.int .i64 n2],SB.box [.lst .ro 1 (zF (Ln.slots l)),.int .i64 (Ln.right l),.int .i64 (Ln.left l),.int .i64 (Ln.run l)],SB.box [.lst .ro 1 (zF (Ln.slots l)),.int .i64 (Ln.left l),.int .i64 (Ln.right l),.int .i64 (Min.min (16:Int) (Ln.run l+a))],SB.box [.lst .ro 1 (zF (Ln.slots l)),.int .i64 (orZ (Ln.left l) c),.int .i64 (Ln.right l),.int .i64 (Ln.run l)],SB.box [.lst .ro 1 (zF (Ln.slots l)),.int .i64 (Ln.left l),.int .i64 (Ln.right l),.int .i64 (Ln.run l)]]) (.n6 rfl) rfl fun fr=>?_
  refine kQ (yV rfl ty62 rfl rfl (by omega) (by omega) cl3 ?_)
  refine kA sh3 rfl (kw rfl yN (kA sh22 rfl (yy rfl ty22 rfl (List.length_map _) ?_)))
  refine zQ rfl (q48c) (.lrefl _) (zB rfl (zA (k_seq (wa [.lay,.plain,.read true,.plain,.plain,.quiet,.plain,.read true,.plain,.plain,.plain,.plain,.plain] (by kernel_rfl) (by kernel_rfl) (by kernel_rfl) ?_))))
  refine d_lay (es:=[]) rfl ty22 ze3 cl3 rfl rfl rfl rfl rfl rfl rfl rfl ?_
  refine zD (kw rfl yN (zA rfl)) ?_
  refine yM rfl (kA sh22 rfl (zA rfl)) (zD (zC rfl (zA rfl)) ?_)
  refine zD (o_sliceK rfl ty22 cl3 rfl rfl (.inl rfl) rfl (by rw[List.length_map];omega) (zA rfl)) ?_
  refine d_appendQ rfl zCc rfl rfl (by simp) (by simp) (by rw[int_drop];exact int_one _) (by rw[List.length_drop,List.length_map];omega) (by rw[List.length_drop,List.length_map];omega) ?_
  refine zD (kw rfl yN (zA rfl)) ?_
  refine yM rfl (kA sh22 rfl (zA rfl)) (zD (zC rfl (zA rfl)) ?_)
  refine zD (o_sliceH rfl ty22 cl3 rfl rfl (.inl rfl) rfl (by rw[List.length_map];omega) (zA rfl)) ?_
  refine zD (o_appendO rfl zCc rfl rfl (by simp) (by simp) (by rw[int_take];exact int_one _) (by rw[List.length_drop,List.length_take,List.length_map];omega) (zA rfl)) ?_
  refine zD (kw rfl yN (zA rfl)) ?_
  refine zD (o_weak 69 rfl (fun _=>rfl) (u:=.lst .ro 1 (zF (rotI l.slots f))) (rot_uw _ _) (ye rfl rfl sh22 rfl rfl (zA rfl))) ?_
  refine zAt ?_
  refine zM [(2,U.box 0 0),(5,U.box 2 0),(6,U.box 3 0),(7,U.box 4 0),(8,U.box 5 0)] ([SB.box [.lst .ro 1 (zF (Ln.slots l)),.int .i64 (Ln.left l),.int .i64 (Ln.right l),.int .i64 (Ln.run l)],SB.box [.int .i64 n0,.int .i64 n1,.int .i64 n2],SB.box [.lst .ro 1 (zF (Ln.slots l)),.int .i64 (Ln.right l),.int .i64 (Ln.left l),.int .i64 (Ln.run l)],SB.box [.lst .ro 1 (zF (Ln.slots l)),.int .i64 (Ln.left l),.int .i64 (Ln.right l),.int .i64 (Min.min (16:Int) (Ln.run l+a))],SB.box [.lst .ro 1 (zF (Ln.slots l)),.int .i64 (orZ (Ln.left l) c),.int .i64 (Ln.right l),.int .i64 (Ln.run l)],SB.box [.lst .ro 1 (zF (rotI (Ln.slots l) f)),.int .i64 (Ln.left l),.int .i64 (Ln.right l),.int .i64 (Ln.run l)]]) (.n5 rfl) rfl fun fr=>?_
  refine kQ (kB sh24 rfl (zQ rfl (q19) (.lrefl _) (zC rfl (ku rfl (ku rfl (zB rfl (zB rfl (zA (kQ (kB sh24 rfl (zQ rfl (q19x) (.lrefl _) (zC rfl (ku rfl (ku rfl (zB rfl ?_)))))))))))))))
  refine zB rfl (zA ?_)
  refine zM [(2,U.box 0 0),(5,U.box 2 0),(6,U.box 3 0),(7,U.box 4 0),(8,U.box 5 0),(10,.int .i64 ↑N),(11,.int .i64 0),(12,.int .i64 ↑N),(13,.int .i64 0)] ([SB.box [.lst .ro 1 (zF (Ln.slots l)),.int .i64 (Ln.left l),.int .i64 (Ln.right l),.int .i64 (Ln.run l)],SB.box [.int .i64 n0,.int .i64 n1,.int .i64 n2],SB.box [.lst .ro 1 (zF (Ln.slots l)),.int .i64 (Ln.right l),.int .i64 (Ln.left l),.int .i64 (Ln.run l)],SB.box [.lst .ro 1 (zF (Ln.slots l)),.int .i64 (Ln.left l),.int .i64 (Ln.right l),.int .i64 (Min.min (16:Int) (Ln.run l+a))],SB.box [.lst .ro 1 (zF (Ln.slots l)),.int .i64 (orZ (Ln.left l) c),.int .i64 (Ln.right l),.int .i64 (Ln.run l)],SB.box [.lst .ro 1 (zF (rotI (Ln.slots l) f)),.int .i64 (Ln.left l),.int .i64 (Ln.right l),.int .i64 (Ln.run l)]]) (.n9 rfl) rfl fun fr=>?_
  refine kQ (kB sh24 rfl (zQ rfl (q19y) (.lrefl _) (zC rfl (ku rfl (ku rfl (zB rfl (zB rfl (zA (kQ (kB sh24 rfl (zQ rfl (q19z) (.lrefl _) (zC rfl (ku rfl (ku rfl (zB rfl ?_)))))))))))))))
  refine zB rfl (zA ?_)
  refine zM [(2,U.box 0 0),(5,U.box 2 0),(8,U.box 5 0),(10,.int .i64 ↑N),(11,.int .i64 0),(12,.int .i64 ↑N),(13,.int .i64 0),(14,.int .i64 ↑N1),(15,.int .i64 0),(16,.int .i64 ↑N2),(17,.int .i64 0)] ([SB.box [.lst .ro 1 (zF (Ln.slots l)),.int .i64 (Ln.left l),.int .i64 (Ln.right l),.int .i64 (Ln.run l)],SB.box [.int .i64 n0,.int .i64 n1,.int .i64 n2],SB.box [.lst .ro 1 (zF (Ln.slots l)),.int .i64 (Ln.right l),.int .i64 (Ln.left l),.int .i64 (Ln.run l)],SB.box [.lst .ro 1 (zF (Ln.slots l)),.int .i64 (Ln.left l),.int .i64 (Ln.right l),.int .i64 (Min.min (16:Int) (Ln.run l+a))],SB.box [.lst .ro 1 (zF (Ln.slots l)),.int .i64 (orZ (Ln.left l) c),.int .i64 (Ln.right l),.int .i64 (Ln.run l)],SB.box [.lst .ro 1 (zF (rotI (Ln.slots l) f)),.int .i64 (Ln.left l),.int .i64 (Ln.right l),.int .i64 (Ln.run l)]]) (.c4 rfl rfl rfl rfl (.n7 rfl)) rfl fun fr=>?_
  refine kQ (kB sh24 rfl (zQ rfl (q19u) (.lrefl _) (zC rfl (ku rfl (ku rfl (zB rfl (zB rfl (zA (k_seq (kQ (zC rfl (kr rfl (zC rfl (kf rfl (zC rfl ?_)))))))))))))))
  refine kf rfl (kr rfl (kD rfl ?_))
  refine zC rfl (kf rfl (zC rfl (kf rfl (kr rfl ?_))))
  refine wP [(2,U.box 0 0),(5,U.box 2 0),(10,.int .i64 ↑N),(12,.int .i64 ↑N),(14,.int .i64 ↑N1),(16,.int .i64 ↑N2),(17,.int .i64 0),(18,.int .i64 ↑N),(19,.int .i64 0),(102,U.bool (decide ((0:Int)≠(0:Int)))),(104,U.bool (decide ((0:Int)≠(0:Int))))] [] ([SB.box [.lst .ro 1 (zF (Ln.slots l)),.int .i64 (Ln.left l),.int .i64 (Ln.right l),.int .i64 (Ln.run l)],SB.box [.int .i64 n0,.int .i64 n1,.int .i64 n2],SB.box [.lst .ro 1 (zF (Ln.slots l)),.int .i64 (Ln.right l),.int .i64 (Ln.left l),.int .i64 (Ln.run l)],SB.box [.lst .ro 1 (zF (Ln.slots l)),.int .i64 (Ln.left l),.int .i64 (Ln.right l),.int .i64 (Min.min (16:Int) (Ln.run l+a))],SB.box [.lst .ro 1 (zF (Ln.slots l)),.int .i64 (orZ (Ln.left l) c),.int .i64 (Ln.right l),.int .i64 (Ln.run l)],SB.box [.lst .ro 1 (zF (rotI (Ln.slots l) f)),.int .i64 (Ln.left l),.int .i64 (Ln.right l),.int .i64 (Ln.run l)]]) (.c4 rfl rfl rfl rfl (.n7 rfl)) rfl rfl fun fr=>?_
  refine kD rfl ?_
  refine zC rfl (kf rfl (zC rfl (kf rfl (kr rfl (kD rfl ?_)))))
  refine zC rfl (kf rfl (zC rfl (kf rfl (kr rfl (kD rfl ?_)))))
  refine wP [(2,U.box 0 0),(5,U.box 2 0),(10,.int .i64 ↑N),(12,.int .i64 ↑N),(14,.int .i64 ↑N1),(16,.int .i64 ↑N2),(18,.int .i64 ↑N),(113,U.bool (decide ((0:Int)≠(0:Int))))] [] ([SB.box [.lst .ro 1 (zF (Ln.slots l)),.int .i64 (Ln.left l),.int .i64 (Ln.right l),.int .i64 (Ln.run l)],SB.box [.int .i64 n0,.int .i64 n1,.int .i64 n2],SB.box [.lst .ro 1 (zF (Ln.slots l)),.int .i64 (Ln.right l),.int .i64 (Ln.left l),.int .i64 (Ln.run l)],SB.box [.lst .ro 1 (zF (Ln.slots l)),.int .i64 (Ln.left l),.int .i64 (Ln.right l),.int .i64 (Min.min (16:Int) (Ln.run l+a))],SB.box [.lst .ro 1 (zF (Ln.slots l)),.int .i64 (orZ (Ln.left l) c),.int .i64 (Ln.right l),.int .i64 (Ln.run l)],SB.box [.lst .ro 1 (zF (rotI (Ln.slots l) f)),.int .i64 (Ln.left l),.int .i64 (Ln.right l),.int .i64 (Ln.run l)]]) (.n8 rfl) rfl rfl fun fr=>?_
  refine zC rfl (kf rfl (zC rfl (kf rfl (zC rfl (kf rfl (kr rfl (kD rfl ?_)))))))
  refine zC rfl (kh rfl (by assumption) (zC rfl (kh rfl (by assumption) (zC rfl (kh rfl (by assumption) (kp rfl (zBJ rfl rfl (by assumption) ?_)))))))
  refine zC rfl (kh rfl (by assumption) (zC rfl (kh rfl (by assumption) (zC rfl (kh rfl (by assumption) (kp rfl (zBJ rfl rfl (by assumption) ?_)))))))
  refine zC rfl (kh rfl (by assumption) (zC rfl (kh rfl (by assumption) (zC rfl (kh rfl (by assumption) (kr rfl (zBJ rfl rfl (by assumption) ?_)))))))
  refine zA (k_cF rfl (by assumption) (zU (kQ (kB sh24 rfl (zQ rfl (q21) (.lrefl _) (zC rfl (ku rfl (ku rfl (zB rfl (zB rfl (zA ?_)))))))))))
  refine zM [(2,U.box 0 0),(5,U.box 2 0),(11,.int .i64 E),(20,.lst .ro 1 (zF S))] ([SB.box [.lst .ro 1 (zF (Ln.slots l)),.int .i64 (Ln.left l),.int .i64 (Ln.right l),.int .i64 (Ln.run l)],SB.box [.int .i64 n0,.int .i64 n1,.int .i64 n2],SB.box [.lst .ro 1 (zF (Ln.slots l)),.int .i64 (Ln.right l),.int .i64 (Ln.left l),.int .i64 (Ln.run l)],SB.box [.lst .ro 1 (zF (Ln.slots l)),.int .i64 (Ln.left l),.int .i64 (Ln.right l),.int .i64 (Min.min (16:Int) (Ln.run l+a))],SB.box [.lst .ro 1 (zF (Ln.slots l)),.int .i64 (orZ (Ln.left l) c),.int .i64 (Ln.right l),.int .i64 (Ln.run l)],SB.box [.lst .ro 1 (zF (rotI (Ln.slots l) f)),.int .i64 (Ln.left l),.int .i64 (Ln.right l),.int .i64 (Ln.run l)]]) (.n4 rfl) rfl fun fr=>?_
  refine kQ (kB sh24 rfl (zQ rfl (q21x) (.lrefl _) (zC rfl (ku rfl (ku rfl (zB rfl (zB rfl (zA (kQ (kB sh24 rfl (zQ rfl (q24) (.lrefl _) (zC rfl (ku rfl (ku rfl (zB rfl ?_)))))))))))))))
  refine zB rfl (zA ?_)
  refine zM [(5,U.box 2 0),(11,.int .i64 E),(13,.int .i64 E),(15,.int .i64 E),(20,.lst .ro 1 (zF S)),(21,.lst .ro 1 (zF T)),(22,.lst .ro 1 (zF R))] ([SB.box [.lst .ro 1 (zF (Ln.slots l)),.int .i64 (Ln.left l),.int .i64 (Ln.right l),.int .i64 (Ln.run l)],SB.box [.int .i64 n0,.int .i64 n1,.int .i64 n2],SB.box [.lst .ro 1 (zF (Ln.slots l)),.int .i64 (Ln.right l),.int .i64 (Ln.left l),.int .i64 (Ln.run l)],SB.box [.lst .ro 1 (zF (Ln.slots l)),.int .i64 (Ln.left l),.int .i64 (Ln.right l),.int .i64 (Min.min (16:Int) (Ln.run l+a))],SB.box [.lst .ro 1 (zF (Ln.slots l)),.int .i64 (orZ (Ln.left l) c),.int .i64 (Ln.right l),.int .i64 (Ln.run l)],SB.box [.lst .ro 1 (zF (rotI (Ln.slots l) f)),.int .i64 (Ln.left l),.int .i64 (Ln.right l),.int .i64 (Ln.run l)]]) (.n7 rfl) rfl fun fr=>?_
  refine kQ (kB sh24 rfl (zQ rfl (q24x) (.lrefl _) (zC rfl (ku rfl (ku rfl (zB rfl (zB rfl (zA (kQ (zC rfl (zC rfl (ks rfl (zC rfl (kh rfl (by assumption) (zC rfl ?_)))))))))))))))
  refine kh rfl (by assumption) (zC rfl (kh rfl (by assumption) (ks rfl (wj rfl rfl (by assumption) ?_))))
  refine zC rfl ?_
  refine wP [(11,.int .i64 E),(17,.int .i64 E),(20,.lst .ro 1 (zF S)),(21,.lst .ro 1 (zF T)),(22,.lst .ro 1 (zF R)),(23,.lst .ro 1 (zF R)),(162,U.bool (decide (E=E)))] [] ([SB.box [.lst .ro 1 (zF (Ln.slots l)),.int .i64 (Ln.left l),.int .i64 (Ln.right l),.int .i64 (Ln.run l)],SB.box [.int .i64 n0,.int .i64 n1,.int .i64 n2],SB.box [.lst .ro 1 (zF (Ln.slots l)),.int .i64 (Ln.right l),.int .i64 (Ln.left l),.int .i64 (Ln.run l)],SB.box [.lst .ro 1 (zF (Ln.slots l)),.int .i64 (Ln.left l),.int .i64 (Ln.right l),.int .i64 (Min.min (16:Int) (Ln.run l+a))],SB.box [.lst .ro 1 (zF (Ln.slots l)),.int .i64 (orZ (Ln.left l) c),.int .i64 (Ln.right l),.int .i64 (Ln.run l)],SB.box [.lst .ro 1 (zF (rotI (Ln.slots l) f)),.int .i64 (Ln.left l),.int .i64 (Ln.right l),.int .i64 (Ln.run l)]]) (.n7 rfl) rfl rfl fun fr=>?_
  refine kh rfl (by assumption) ?_
  refine wP [(11,.int .i64 E),(17,.int .i64 E),(20,.lst .ro 1 (zF S)),(21,.lst .ro 1 (zF T)),(22,.lst .ro 1 (zF R)),(23,.lst .ro 1 (zF R)),(162,U.bool (decide (E=E)))] [] ([SB.box [.lst .ro 1 (zF (Ln.slots l)),.int .i64 (Ln.left l),.int .i64 (Ln.right l),.int .i64 (Ln.run l)],SB.box [.int .i64 n0,.int .i64 n1,.int .i64 n2],SB.box [.lst .ro 1 (zF (Ln.slots l)),.int .i64 (Ln.right l),.int .i64 (Ln.left l),.int .i64 (Ln.run l)],SB.box [.lst .ro 1 (zF (Ln.slots l)),.int .i64 (Ln.left l),.int .i64 (Ln.right l),.int .i64 (Min.min (16:Int) (Ln.run l+a))],SB.box [.lst .ro 1 (zF (Ln.slots l)),.int .i64 (orZ (Ln.left l) c),.int .i64 (Ln.right l),.int .i64 (Ln.run l)],SB.box [.lst .ro 1 (zF (rotI (Ln.slots l) f)),.int .i64 (Ln.left l),.int .i64 (Ln.right l),.int .i64 (Ln.run l)]]) (.n7 rfl) rfl rfl fun fr=>?_
  refine zC rfl (kh rfl (by assumption) (zC rfl (kh rfl (by assumption) (ks rfl (wj rfl rfl (by assumption) ?_)))))
  refine zC rfl (kh rfl (by assumption) (zC rfl (kh rfl (by assumption) (zQ rfl (q45a) (.lrefl _) (kh rfl (by assumption) (yy rfl ty22 rfl (List.length_map _) ?_))))))
  refine kh rfl (by assumption) (zC rfl ?_)
  refine wP [(21,.lst .ro 1 (zF T)),(22,.lst .ro 1 (zF R)),(23,.lst .ro 1 (zF R)),(167,U.bool (decide (E=E))),(170,.int .i64 ↑(List.length P1)),(171,.lst .ro 1 (zF S))] [] ([SB.box [.lst .ro 1 (zF (Ln.slots l)),.int .i64 (Ln.left l),.int .i64 (Ln.right l),.int .i64 (Ln.run l)],SB.box [.int .i64 n0,.int .i64 n1,.int .i64 n2],SB.box [.lst .ro 1 (zF (Ln.slots l)),.int .i64 (Ln.right l),.int .i64 (Ln.left l),.int .i64 (Ln.run l)],SB.box [.lst .ro 1 (zF (Ln.slots l)),.int .i64 (Ln.left l),.int .i64 (Ln.right l),.int .i64 (Min.min (16:Int) (Ln.run l+a))],SB.box [.lst .ro 1 (zF (Ln.slots l)),.int .i64 (orZ (Ln.left l) c),.int .i64 (Ln.right l),.int .i64 (Ln.run l)],SB.box [.lst .ro 1 (zF (rotI (Ln.slots l) f)),.int .i64 (Ln.left l),.int .i64 (Ln.right l),.int .i64 (Ln.run l)]]) (.n6 rfl) rfl rfl fun fr=>?_
  refine kh rfl (by assumption) ?_
  refine wP [(21,.lst .ro 1 (zF T)),(22,.lst .ro 1 (zF R)),(23,.lst .ro 1 (zF R)),(167,U.bool (decide (E=E))),(170,.int .i64 ↑(List.length P1)),(171,.lst .ro 1 (zF S))] [] ([SB.box [.lst .ro 1 (zF (Ln.slots l)),.int .i64 (Ln.left l),.int .i64 (Ln.right l),.int .i64 (Ln.run l)],SB.box [.int .i64 n0,.int .i64 n1,.int .i64 n2],SB.box [.lst .ro 1 (zF (Ln.slots l)),.int .i64 (Ln.right l),.int .i64 (Ln.left l),.int .i64 (Ln.run l)],SB.box [.lst .ro 1 (zF (Ln.slots l)),.int .i64 (Ln.left l),.int .i64 (Ln.right l),.int .i64 (Min.min (16:Int) (Ln.run l+a))],SB.box [.lst .ro 1 (zF (Ln.slots l)),.int .i64 (orZ (Ln.left l) c),.int .i64 (Ln.right l),.int .i64 (Ln.run l)],SB.box [.lst .ro 1 (zF (rotI (Ln.slots l) f)),.int .i64 (Ln.left l),.int .i64 (Ln.right l),.int .i64 (Ln.run l)]]) (.n6 rfl) rfl rfl fun fr=>?_
  refine zQ rfl (q45b) (.lrefl _) (kh rfl (by assumption) (yy rfl ty22 rfl (List.length_map _) ?_))
  refine kh rfl (by assumption) ?_
  refine o_sub rfl rfl rfl (by unfold I64;omega) (kh rfl (by assumption) (zQ rfl (q44a) (.lrefl _) (kh rfl (by assumption) (zC rfl (kh rfl (by assumption) (zQ rfl (q45c) (.lrefl _) (kh rfl (by assumption) (yy rfl ty22 rfl (List.length_map _) ?_))))))))
  refine kh rfl (by assumption) (zC rfl (kh rfl (by assumption) (zQ rfl (q45d) (.lrefl _) ?_)))
  refine wP [(22,.lst .ro 1 (zF R)),(23,.lst .ro 1 (zF R)),(167,U.bool (decide (E=E))),(175,.int .i64 D),(178,.int .i64 ↑(List.length P3)),(180,.lst .ro 1 (zF P4))] [] ([SB.box [.lst .ro 1 (zF (Ln.slots l)),.int .i64 (Ln.left l),.int .i64 (Ln.right l),.int .i64 (Ln.run l)],SB.box [.int .i64 n0,.int .i64 n1,.int .i64 n2],SB.box [.lst .ro 1 (zF (Ln.slots l)),.int .i64 (Ln.right l),.int .i64 (Ln.left l),.int .i64 (Ln.run l)],SB.box [.lst .ro 1 (zF (Ln.slots l)),.int .i64 (Ln.left l),.int .i64 (Ln.right l),.int .i64 (Min.min (16:Int) (Ln.run l+a))],SB.box [.lst .ro 1 (zF (Ln.slots l)),.int .i64 (orZ (Ln.left l) c),.int .i64 (Ln.right l),.int .i64 (Ln.run l)],SB.box [.lst .ro 1 (zF (rotI (Ln.slots l) f)),.int .i64 (Ln.left l),.int .i64 (Ln.right l),.int .i64 (Ln.run l)]]) (.n6 rfl) rfl rfl fun fr=>?_
  refine kh rfl (by assumption) ?_
  refine wP [(22,.lst .ro 1 (zF R)),(23,.lst .ro 1 (zF R)),(167,U.bool (decide (E=E))),(175,.int .i64 D),(178,.int .i64 ↑(List.length P3)),(180,.lst .ro 1 (zF P4))] [] ([SB.box [.lst .ro 1 (zF (Ln.slots l)),.int .i64 (Ln.left l),.int .i64 (Ln.right l),.int .i64 (Ln.run l)],SB.box [.int .i64 n0,.int .i64 n1,.int .i64 n2],SB.box [.lst .ro 1 (zF (Ln.slots l)),.int .i64 (Ln.right l),.int .i64 (Ln.left l),.int .i64 (Ln.run l)],SB.box [.lst .ro 1 (zF (Ln.slots l)),.int .i64 (Ln.left l),.int .i64 (Ln.right l),.int .i64 (Min.min (16:Int) (Ln.run l+a))],SB.box [.lst .ro 1 (zF (Ln.slots l)),.int .i64 (orZ (Ln.left l) c),.int .i64 (Ln.right l),.int .i64 (Ln.run l)],SB.box [.lst .ro 1 (zF (rotI (Ln.slots l) f)),.int .i64 (Ln.left l),.int .i64 (Ln.right l),.int .i64 (Ln.run l)]]) (.n6 rfl) rfl rfl fun fr=>?_
  refine yy rfl ty22 rfl (List.length_map _) ?_
  refine kh rfl (by assumption) ?_
  refine o_sub rfl rfl rfl (by unfold I64;omega) (kh rfl (by assumption) (zQ rfl (q44b) (.lrefl _) (kh rfl (by assumption) (ks rfl (wj rfl rfl (by assumption) ?_)))))
  refine zC rfl (kh rfl (by assumption) (zC rfl (kh rfl (by assumption) (zC rfl (kh rfl (by assumption) (zQ rfl (q23) (.lrefl _) ?_))))))
  refine wP [(186,U.bool (decide (D=D))),(189,.bool true)] [] ([SB.box [.lst .ro 1 (zF (Ln.slots l)),.int .i64 (Ln.left l),.int .i64 (Ln.right l),.int .i64 (Ln.run l)],SB.box [.int .i64 n0,.int .i64 n1,.int .i64 n2],SB.box [.lst .ro 1 (zF (Ln.slots l)),.int .i64 (Ln.right l),.int .i64 (Ln.left l),.int .i64 (Ln.run l)],SB.box [.lst .ro 1 (zF (Ln.slots l)),.int .i64 (Ln.left l),.int .i64 (Ln.right l),.int .i64 (Min.min (16:Int) (Ln.run l+a))],SB.box [.lst .ro 1 (zF (Ln.slots l)),.int .i64 (orZ (Ln.left l) c),.int .i64 (Ln.right l),.int .i64 (Ln.run l)],SB.box [.lst .ro 1 (zF (rotI (Ln.slots l) f)),.int .i64 (Ln.left l),.int .i64 (Ln.right l),.int .i64 (Ln.run l)]]) (.n2 rfl) rfl rfl fun fr=>?_
  refine wj rfl rfl (by assumption) ?_
  refine zC rfl (kf rfl (zQ rfl (r26) (.lrefl _) (kE rfl ?_)))
  refine zB rfl (zA (zk ?_))
  refine⟨.inr rfl,_,.cons _ _ _ _ (.tmp 4) .nil,?_⟩
  exact .refl _
end Go.Proofs.YthhbfbmfhldbaaaDoor.locks
