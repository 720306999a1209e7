import Derived.Test.YthhbfbmfhldbaaaDoorVamT16
set_option linter.unusedVariables false
set_option linter.unusedSimpArgs false
set_option linter.constructorNameAsVariable false
namespace Go.Proofs.YthhbfbmfhldbaaaDoor.locks
open Vam
variable {is:FuncId→Bool}{orc:Known}
noncomputable def b8:Code:=(Tryd.f8.body).getD .skip
theorem body8:bodyOf Tryd.prog 8=some (158,b8,[.tmp 8]):=by kernel_rfl
theorem pure8:pureFn Tryd.prog 8=true:=by kernel_rfl
set_option maxHeartbeats 32000000 in
theorem ret8(hi:Off is)(l:Ln)(L:List Int)(who:Int)(bits:List Int)(r26:RetP Tryd.prog is orc 26 [] (.bool true)):RetP Tryd.prog is orc 8 [l.u,.lst .ro 1 (zE L),.int .i64 who,.lst .ro 1 (zE bits)] (.bool true):=by
 refine yJ body8 pure8 (hi 8 (by decide)) rfl rfl (dat_l4 (zAO l 5) (zw 6 .ro (fun h=>by cases h) 1 L) (.int _ _ _) (zw 6 .ro (fun h=>by cases h) 1 bits)) (.inl (.bool _ _)) ?_
 have q48:=ret48 (orc:=orc) hi who 2 (by decide)
 have hw:=turnI_b (n:=who) (b:=2) (by decide)
 generalize zEJ who 2=w at*
 have hw2:w=0∨w=1:=by omega
 have q41:=ret41 (orc:=orc) hi l
 have q27:=ret27 (orc:=orc) hi l w L
 have hE:zBJ l w L=if wX l=true then if zAh l w L=true then if divB l (aloL l w L)=true then 0 else 4 else 71 else 70:=rfl
 have hM:zBJ l w L≠0→zAk l w L=[]:=fun h=>by unfold zAk;rw[if_neg h]
 cases hv:wX l with
 |false=>
  rw[hv,if_neg (by decide)]at hE
  rw[hM (by rw[hE];decide),hE]at q27
  rw[hv]at q41
  refine kQ (yb rfl rfl (zC rfl (zB ?_)))
  refine zI [(1,.lst .ro 1 (zE L)),(2,.int .i64 who),(3,.lst .ro 1 (zE bits)),(4,U.box 0 0)] ([SB.box [.lst .ro 1 (zE (Ln.slots l)),.int .i64 (Ln.left l),.int .i64 (Ln.right l),.int .i64 (Ln.run l)]]) (.n4 rfl) rfl fun fr=>?_
  refine kQ (zA rfl (zL rfl (q48) (.lrefl _) (zC rfl (zB (kQ (kB sh24 rfl (zA rfl (zA rfl (zL rfl (q27) (.lrefl _) (zA rfl (ku rfl (ku rfl (zC rfl (zC rfl (zB ?_)))))))))))))))
  refine zI [(1,.lst .ro 1 (zE L)),(3,.lst .ro 1 (zE bits)),(4,U.box 0 0),(9,.int .i64 w),(10,.lst .ro 1 (zE [])),(11,.int .i64 70)] ([SB.box [.lst .ro 1 (zE (Ln.slots l)),.int .i64 (Ln.left l),.int .i64 (Ln.right l),.int .i64 (Ln.run l)]]) (.n6 rfl) rfl fun fr=>?_
  refine k_seq (kQ (kB sh24 rfl (zL rfl (q41) (.lrefl _) (yW rfl rfl (zB (k_cT rfl rfl ?_))))))
  refine kQ (zA rfl (ks rfl (zA rfl (kf rfl (zA rfl (kf rfl (zi rfl ty22 rfl (List.length_map _) ?_)))))))
  refine kf rfl (ks rfl (kE rfl ?_))
  refine zA rfl (kf rfl (zL rfl (r26) (.lrefl _) (kE rfl ?_)))
  refine zC rfl (zB (za ?_))
  refine⟨.inr rfl,_,.cons _ _ _ _ (.tmp 8) .nil,?_⟩
  exact .refl _
 |true=>
  have h:=zCx.1 hv
  have hn:=h.n
  rw[hv,if_pos rfl]at hE
  rw[hv]at q41
  have q42:=ret42 (orc:=orc) hi h bits
  have q43:=ret43 (orc:=orc) hi h (drwL l bits l.slots.length)
  have hxl:=drw_len l bits l.slots.length
  have hpx:=mate_part (l:=l) hv (p:=drwL l bits l.slots.length) (w:=w) hw2
  have q27x:=ret27 (orc:=orc) hi l w (prtL (drwL l bits l.slots.length) w)
  generalize drwL l bits l.slots.length=X at*
  have q45a:=ret45 (orc:=orc) hi (p:=X) (by omega) w
  have q45b:=ret45 (orc:=orc) hi (p:=X) (by omega) (1 - w)
  have q23x:=ret23 (orc:=orc) hi (prtL X (1 - w)) (by have:=zCU (fun i=>decide (at' X i=1 - w)) X.length;show(memP _ _).length≤4096;omega)
  have q47:=ret47 (orc:=orc) hi (n:=l.slots.length) (by omega) L
  have hr:zAh l w L=grwB (-1) l.slots.length L:=by unfold zAh;rw[zAU.2 (by omega),Bool.true_and]
  rw[hr]at hE
  have hXd:X.length=l.slots.length:=hxl
  generalize hd:divB l X=z1 at*
  refine kQ (yb rfl rfl (zC rfl (zB ?_)))
  refine zI [(1,.lst .ro 1 (zE L)),(2,.int .i64 who),(3,.lst .ro 1 (zE bits)),(4,U.box 0 0)] ([SB.box [.lst .ro 1 (zE (Ln.slots l)),.int .i64 (Ln.left l),.int .i64 (Ln.right l),.int .i64 (Ln.run l)]]) (.n4 rfl) rfl fun fr=>?_
  refine kQ (zA rfl (zL rfl (q48) (.lrefl _) (zC rfl (zB (kQ (kB sh24 rfl (zA rfl (zA rfl (zL rfl (q27) (.lrefl _) (zA rfl (ku rfl (ku rfl (zC rfl (zC rfl (zB ?_)))))))))))))))
  refine zI [(1,.lst .ro 1 (zE L)),(3,.lst .ro 1 (zE bits)),(4,U.box 0 0),(9,.int .i64 w),(10,.lst .ro 1 (zE (zAk l w L))),(11,.int .i64 (zBJ l w L))] ([SB.box [.lst .ro 1 (zE (Ln.slots l)),.int .i64 (Ln.left l),.int .i64 (Ln.right l),.int .i64 (Ln.run l)]]) (.n6 rfl) rfl fun fr=>?_
  refine k_seq (kQ (kB sh24 rfl (zL rfl (q41) (.lrefl _) (yW rfl rfl (zB (k_cF rfl rfl ?_))))))
  refine zJ (kQ (kB sh24 rfl (zA rfl (zL rfl (q42) (.lrefl _) (zC rfl (zB ?_))))))
  refine k_cut (fun s2=>s2.st=[.box l.cs]∧Holds s2 [(1,.lst .ro 1 (zE L)),(4,.box 0 0),(9,.int .i64 w),(10,.lst .ro 1 (zE (zAk l w L))),(11,.int .i64 (zBJ l w L))]) ?_ ?_
  ·cases z1 with
   |false=>
    refine kQ (kB sh24 rfl (zA rfl (zL rfl (q43) (.lrefl _) (zB (k_cF rfl rfl ?_)))))
    refine zJ ?_
    exact⟨rfl,rfl,.c4 rfl rfl rfl rfl (.n1 rfl)⟩
   |true=>
    obtain⟨e1,e2⟩:=hpx rfl
    rw[e1,e2]at q27x
    refine kQ (kB sh24 rfl (zA rfl (zL rfl (q43) (.lrefl _) (zB (k_cT rfl rfl ?_)))))
    refine k_seq (yf [.read true,.plain,.plain,.plain,.quiet,.plain,.plain,.plain,.plain,.plain,.plain] (by kernel_rfl) (by kernel_rfl) (by kernel_rfl) ?_)
    refine zX rfl (kB sh24 rfl (zB rfl)) ?_
    refine zD (zA rfl (zB rfl)) (zD (zA rfl (zB rfl)) (zD (zA rfl (zB rfl)) (zDq rfl (q45a) (.lrefl _) ?_)))
    refine zD (zL rfl (q27x) (.lrefl _) (zB rfl)) ?_
    refine zD (zA rfl (zB rfl)) (zD (ku rfl (zB rfl)) ?_)
    refine zD (ku rfl (zB rfl)) ?_
    refine zD (zC rfl (zB rfl)) ?_
    refine zD (zC rfl (zB rfl)) ?_
    refine wl ?_
    refine zI [(1,.lst .ro 1 (zE L)),(4,U.box 0 0),(9,.int .i64 w),(10,.lst .ro 1 (zE (zAk l w L))),(11,.int .i64 (zBJ l w L)),(12,.lst .ro 1 (zE X)),(13,.lst .ro 1 (zE (prtL X ((1:Int) - w)))),(14,.int .i64 0)] ([SB.box [.lst .ro 1 (zE (Ln.slots l)),.int .i64 (Ln.left l),.int .i64 (Ln.right l),.int .i64 (Ln.run l)]]) (.n8 rfl) rfl fun fr=>?_
    refine kQ (zA rfl (kr rfl (zA rfl (kf rfl (zA rfl (kf rfl (zA rfl (kf rfl (zA rfl (kf rfl ?_))))))))))
    refine o_sub rfl rfl rfl (by unfold I64;omega) (kf rfl (zL rfl (q45b) (.lrefl _) (kf rfl (zL rfl (q23x) (.lrefl _) (kf rfl (yW rfl rfl (kD rfl ?_)))))))
    refine zB (k_cF rfl rfl ?_)
    refine zJ ?_
    exact⟨rfl,rfl,.c4 rfl rfl rfl rfl (.n1 rfl)⟩
  ·rintro s2 ⟨hst2,hs2⟩
   have hrr:grwB (-1) l.slots.length L=true→L.Pairwise (fun x y=>x<y)∧∀x∈L,0≤x∧x<l.slots.length:=fun e=>(zEt.1 (hr.trans e)).2
   generalize grwB (-1) l.slots.length L=z2 at*
   cases z2 with
   |false=>
    rw[if_neg (by decide)]at hE
    rw[hM (by rw[hE];decide),hE]at hs2
    refine zI _ _ hs2 hst2 fun fr2=>?_
    refine k_seq (kQ (zA rfl (kw rfl zO (kA sh22 rfl (zi rfl ty22 rfl (List.length_map _) ?_)))))
    refine zL rfl (q47) (.lrefl _) (yW rfl rfl (zB (k_cT rfl rfl ?_)))
    refine kQ (zA rfl (ks rfl (zA rfl (kf rfl (zA rfl (kf rfl (zi rfl ty22 rfl (List.length_map _) ?_)))))))
    refine kf rfl (ks rfl (kE rfl ?_))
    refine zA rfl (kf rfl (zL rfl (r26) (.lrefl _) (kE rfl ?_)))
    refine zC rfl (zB (za ?_))
    refine⟨.inr rfl,_,.cons _ _ _ _ (.tmp 8) .nil,?_⟩
    exact .refl _
   |true=>
    obtain⟨hp,hb⟩:=hrr rfl
    rw[if_pos rfl]at hE
    refine zI _ _ hs2 hst2 fun fr2=>?_
    refine k_seq (kQ (zA rfl (kw rfl zO (kA sh22 rfl (zi rfl ty22 rfl (List.length_map _) ?_)))))
    refine zL rfl (q47) (.lrefl _) (yW rfl rfl (zB (k_cF rfl rfl ?_)))
    refine zJ (kQ (zC rfl (zB (k_seq (kQ (zC rfl (zB (zH ?_))))))))
    clear q42 q43 q27x q45a q45b q23x hpx
    have hlen:L.length≤16:=by
     have:=zCU (fun i=>decide ((i:Int)∈L)) l.slots.length
     rw[inc_memP hp hb]at this
     omega
    refine yu (fun kk s3=>∃i:Nat,kk+i=l.slots.length∧s3.st=[.box l.cs]∧Holds s3 [(1,.lst .ro 1 (zE L)),(4,.box 0 0),(9,.int .i64 w),(10,.lst .ro 1 (zE (zAk l w L))),(11,.int .i64 (zBJ l w L)),(15,accI (aloP l w L i)),(16,.int .i64 i)]) (fun kk s3 hJ=>?_) l.slots.length _ ⟨0,rfl,rfl,.c4 rfl rfl rfl rfl (.n3 rfl)⟩
    obtain⟨i,hk,hst3,hs3⟩:=hJ
    have hsu:=aloP_succ l w L i
    have hml:=aloP_len l w L i
    obtain⟨M,hMd⟩:∃M,M=aloP l w L i:=⟨_,rfl⟩
    rw[←hMd]at hsu hml hs3
    by_cases hin:i<l.slots.length
    ·obtain⟨t,hx,ha,ht⟩:=h.at hin
     have q49:=ret49 (orc:=orc) hi L i (by omega)
     have hix:=idx_mem L i 0
     have hdf:aloI l w L i=if(i:Int)∈L then w else if t= -1 then -1 else 1 - w:=by unfold aloI;rw[ha]
     refine zI _ _ hs3 hst3 fun fr3=>?_
     by_cases c1:(i:Int)∈L
     ·rw[hdf,if_pos c1]at hsu
      rw[kF c1]at hix
      have hix:=of_decide_eq_true hix
      generalize idxI L i 0=ix at*
      cases M with
      |nil=>
       refine k_seq (kQ (zA rfl (kw rfl zO (kA sh22 rfl (zi rfl ty22 rfl (List.length_map _) ?_)))))
       refine kp rfl (zB (k_cT rfl (kF (by omega)) (zJ (k_seq (zH (zH (kQ (zA rfl (zA rfl (zL rfl (q49) (.lrefl _) (wK rfl rfl rfl (zC rfl (zB (k_cT rfl (by assumption) (k_region ?_)))))))))))))))
       refine zA rfl (zA rfl (zAT (es:=[.int .i64 w]) rfl ty22 ze3 cl3 rfl rfl rfl rfl rfl rfl rfl rfl ?_))
       refine wO rfl ym rfl rfl (by simp) (by simp) (by simp[yD,zj,oneU]) (by simp) ?_
       refine zC rfl (zB ?_)
       refine zI [(1,.lst .ro 1 (zE L)),(4,U.box 0 0),(9,.int .i64 w),(10,.lst .ro 1 (zE (zAk l w L))),(11,.int .i64 (zBJ l w L)),(15,U.lst Kd.own 1 [.int .i64 w]),(16,.int .i64 ↑i)] ([SB.box (Ln.cs l)]) (.n7 rfl) rfl fun fr=>?_
       refine k_region (zA rfl ?_)
       refine kz rfl (by unfold I64;omega) (zC rfl (zB ?_))
       exact⟨kk - 1,by omega,i+1,by omega,rfl,.c4 rfl rfl rfl rfl (.cons rfl (.cons (by rw[hsu];rfl) (.n1 rfl)))⟩
      |cons y M=>
       refine k_seq (kQ (zA rfl (kw rfl zO (kA sh22 rfl (zi rfl ty22 rfl (List.length_map _) ?_)))))
       refine kp rfl (zB (k_cT rfl (kF (by omega)) (zJ (k_seq (zH (zH (kQ (zA rfl (zA rfl (zL rfl (q49) (.lrefl _) (wK rfl rfl rfl (zC rfl (zB (k_cT rfl (by assumption) (k_region ?_)))))))))))))))
       refine zA rfl (zA rfl (zAT (es:=[.int .i64 w]) rfl ty22 ze3 cl3 rfl rfl rfl rfl rfl rfl rfl rfl ?_))
       refine wN 15 rfl ym rfl rfl rfl (by simp) (by simp) (by simp[yD,zj,oneU]) (by simp at hml ⊢;omega) ?_
       refine zC rfl (zB (k_region (zA rfl ?_)))
       refine kz rfl (by unfold I64;omega) (zC rfl (zB ?_))
       exact⟨kk - 1,by omega,i+1,by omega,rfl,.c4 rfl rfl rfl rfl (.cons rfl (.cons (by rw[hsu,wT];rfl) (.n1 rfl)))⟩
     ·rw[hdf,if_neg c1]at hsu
      rw[kG c1]at hix
      have hix:=of_decide_eq_false hix
      generalize idxI L i 0=ix at*
      by_cases c2:t= -1
      ·rw[if_pos c2]at hsu
       cases M with
       |nil=>
        refine k_seq (kQ (zA rfl (kw rfl zO (kA sh22 rfl (zi rfl ty22 rfl (List.length_map _) ?_)))))
        refine kp rfl (zB (k_cT rfl (kF (by omega)) (zJ (k_seq (zH (zH (kQ (zA rfl (zA rfl (zL rfl (q49) (.lrefl _) (wK rfl rfl rfl (zC rfl (zB (k_cF rfl (by assumption) (kQ ?_)))))))))))))))
        refine kw rfl zO (kA sh22 rfl (zA rfl (zx (u:=.int .i64 (t)) rfl ty22 rfl rfl (Int.natCast_nonneg _) (by simp[hx]) cl3 ?_)))
        refine kC sh3 rfl ?_
        refine kp rfl (zC rfl (zB ?_))
        refine zI [(1,.lst .ro 1 (zE L)),(4,U.box 0 0),(9,.int .i64 w),(10,.lst .ro 1 (zE (zAk l w L))),(11,.int .i64 (zBJ l w L)),(15,accI []),(16,.int .i64 ↑i),(104,U.bool (decide (t<(0:Int))))] ([SB.box (Ln.cs l)]) (.n8 rfl) rfl fun fr=>?_
        refine k_cT rfl (kF (by omega)) (k_region (zA rfl (zAT (es:=[_]) rfl ty22 ze3 cl3 rfl rfl rfl rfl rfl rfl rfl rfl ?_)))
        refine wO rfl ym rfl rfl (by simp) (by simp) rfl (by simp) ?_
        refine zC rfl (zB (k_region (zA rfl ?_)))
        refine kz rfl (by unfold I64;omega) (zC rfl (zB ?_))
        exact⟨kk - 1,by omega,i+1,by omega,rfl,.c4 rfl rfl rfl rfl (.cons rfl (.cons (by rw[hsu];rfl) (.n1 rfl)))⟩
       |cons y M=>
        refine k_seq (kQ (zA rfl (kw rfl zO (kA sh22 rfl (zi rfl ty22 rfl (List.length_map _) ?_)))))
        refine kp rfl (zB (k_cT rfl (kF (by omega)) (zJ (k_seq (zH (zH (kQ (zA rfl (zA rfl (zL rfl (q49) (.lrefl _) (wK rfl rfl rfl (zC rfl (zB (k_cF rfl (by assumption) (kQ ?_)))))))))))))))
        refine kw rfl zO (kA sh22 rfl (zA rfl (zx (u:=.int .i64 (t)) rfl ty22 rfl rfl (Int.natCast_nonneg _) (by simp[hx]) cl3 ?_)))
        refine kC sh3 rfl ?_
        refine kp rfl (zC rfl (zB (k_cT rfl (kF (by omega)) (k_region (zA rfl (zAT (es:=[_]) rfl ty22 ze3 cl3 rfl rfl rfl rfl rfl rfl rfl rfl ?_))))))
        refine wN 15 rfl ym rfl rfl rfl (by simp) (by simp) rfl (by simp at hml ⊢;omega) ?_
        refine zC rfl (zB (k_region (zA rfl ?_)))
        refine kz rfl (by unfold I64;omega) (zC rfl (zB ?_))
        exact⟨kk - 1,by omega,i+1,by omega,rfl,.c4 rfl rfl rfl rfl (.cons rfl (.cons (by rw[hsu,wT];rfl) (.n1 rfl)))⟩
      ·rw[if_neg c2]at hsu
       cases M with
       |nil=>
        refine k_seq (kQ (zA rfl (kw rfl zO (kA sh22 rfl (zi rfl ty22 rfl (List.length_map _) ?_)))))
        refine kp rfl (zB (k_cT rfl (kF (by omega)) (zJ (k_seq (zH (zH (kQ (zA rfl (zA rfl (zL rfl (q49) (.lrefl _) (wK rfl rfl rfl (zC rfl (zB (k_cF rfl (by assumption) (kQ ?_)))))))))))))))
        refine kw rfl zO (kA sh22 rfl (zA rfl (zx (u:=.int .i64 (t)) rfl ty22 rfl rfl (Int.natCast_nonneg _) (by simp[hx]) cl3 ?_)))
        refine kC sh3 rfl ?_
        refine kp rfl (zC rfl (zB ?_))
        refine zI [(1,.lst .ro 1 (zE L)),(4,U.box 0 0),(9,.int .i64 w),(10,.lst .ro 1 (zE (zAk l w L))),(11,.int .i64 (zBJ l w L)),(15,accI []),(16,.int .i64 ↑i),(104,U.bool (decide (t<(0:Int))))] ([SB.box (Ln.cs l)]) (.n8 rfl) rfl fun fr=>?_
        refine k_cF rfl (kG (by omega)) (k_region (zA rfl (zA rfl ?_)))
        refine o_sub rfl rfl rfl (by unfold I64;omega) (zAT (es:=[.int .i64 ((1:Int) - w)]) rfl ty22 ze3 cl3 rfl rfl rfl rfl rfl rfl rfl rfl ?_)
        refine wO rfl ym rfl rfl (by simp) (by simp) (by simp[yD,zj,oneU]) (by simp) ?_
        refine zC rfl (zB (k_region (zA rfl ?_)))
        refine kz rfl (by unfold I64;omega) (zC rfl (zB ?_))
        exact⟨kk - 1,by omega,i+1,by omega,rfl,.c4 rfl rfl rfl rfl (.cons rfl (.cons (by rw[hsu];rfl) (.n1 rfl)))⟩
       |cons y M=>
        refine k_seq (kQ (zA rfl (kw rfl zO (kA sh22 rfl (zi rfl ty22 rfl (List.length_map _) ?_)))))
        refine kp rfl (zB (k_cT rfl (kF (by omega)) (zJ (k_seq (zH (zH (kQ (zA rfl (zA rfl (zL rfl (q49) (.lrefl _) (wK rfl rfl rfl (zC rfl (zB (k_cF rfl (by assumption) (kQ ?_)))))))))))))))
        refine kw rfl zO (kA sh22 rfl (zA rfl (zx (u:=.int .i64 (t)) rfl ty22 rfl rfl (Int.natCast_nonneg _) (by simp[hx]) cl3 ?_)))
        refine kC sh3 rfl ?_
        refine kp rfl (zC rfl (zB (k_cF rfl (kG (by omega)) (k_region (zA rfl (zA rfl ?_))))))
        refine o_sub rfl rfl rfl (by unfold I64;omega) (zAT (es:=[.int .i64 ((1:Int) - w)]) rfl ty22 ze3 cl3 rfl rfl rfl rfl rfl rfl rfl rfl ?_)
        refine wN 15 rfl ym rfl rfl rfl (by simp) (by simp) (by simp[yD,zj,oneU]) (by simp at hml ⊢;omega) ?_
        refine zC rfl (zB (k_region (zA rfl ?_)))
        refine kz rfl (by unfold I64;omega) (zC rfl (zB ?_))
        exact⟨kk - 1,by omega,i+1,by omega,rfl,.c4 rfl rfl rfl rfl (.cons rfl (.cons (by rw[hsu,wT];rfl) (.n1 rfl)))⟩
    ·have hie:i=l.slots.length:=by omega
     have hA:accI M=accI (aloL l w L):=by rw[hMd,hie];rfl
     rw[hA]at hs3
     clear hA hsu hml hMd
     have hal:=zFc l w L
     have hpa:=part_alo hw2 hp hb
     have q43A:=ret43 (orc:=orc) hi h (aloL l w L)
     have hmp:=mate_part (l:=l) hv (p:=aloL l w L) (w:=1 - w) (by omega)
     rw[show 1 - (1 - w)=w by omega,hpa]at hmp
     have q27b:=ret27 (orc:=orc) hi l (1 - w) (prtL (aloL l w L) (1 - w))
     have q45c:=ret45 (orc:=orc) hi (p:=aloL l w L) (by omega) (1 - w)
     have q23a:=ret23 (orc:=orc) hi (prtL (aloL l w L) (1 - w)) (by have:=zCU (fun i=>decide (at' (aloL l w L) i=1 - w)) (aloL l w L).length;show(memP _ _).length≤4096;omega)
     have q23b:=ret23 (orc:=orc) hi L (by omega)
     have hML:divB l (aloL l w L)=true→zAk l w L=prtL (aloL l w L) (1 - w):=fun e=>by unfold zAk;rw[hE,if_pos e,if_pos rfl]
     have hMn:divB l (aloL l w L)=false→zAk l w L=[]:=fun e=>hM (by rw[hE,e,if_neg (by decide)];decide)
     generalize aloL l w L=A at*
     generalize divB l A=z3 at*
     cases A with
     |nil=>exact absurd hal (by show ¬ (0=l.slots.length);omega)
     |cons y A=>
      cases z3 with
      |false=>
       rw[if_neg (by decide)]at hE
       rw[hMn rfl,hE]at hs3
       refine zI _ _ hs3 hst3 fun fr3=>?_
       refine k_seq (kQ (zA rfl (kw rfl zO (kA sh22 rfl (zi rfl ty22 rfl (List.length_map _) ?_)))))
       refine kp rfl (zB (k_cF rfl (kG (by omega)) (yI (k_seq (kQ (kB sh24 rfl (zA rfl (zL rfl (q43A) (.lrefl _) (yW rfl rfl (zB (k_cT rfl rfl ?_)))))))))))
       refine kQ (zA rfl (ks rfl (zA rfl (kf rfl (zA rfl (kf rfl (zi rfl ty22 rfl (List.length_map _) ?_)))))))
       refine kf rfl (ks rfl (kE rfl ?_))
       refine zA rfl (kf rfl (zL rfl (r26) (.lrefl _) (kE rfl ?_)))
       refine zC rfl (zB (za ?_))
       refine⟨.inr rfl,_,.cons _ _ _ _ (.tmp 8) .nil,?_⟩
       exact .refl _
      |true=>
       rw[if_pos rfl]at hE
       rw[hML rfl,hE]at hs3
       obtain⟨e1,e2⟩:=hmp rfl
       rw[e1,e2]at q27b
       refine zI _ _ hs3 hst3 fun fr3=>?_
       refine k_seq (kQ (zA rfl (kw rfl zO (kA sh22 rfl (zi rfl ty22 rfl (List.length_map _) ?_)))))
       refine kp rfl (zB (k_cF rfl (kG (by omega)) (yI (k_seq (kQ (kB sh24 rfl (zA rfl (zL rfl (q43A) (.lrefl _) (yW rfl rfl (zB (k_cF rfl rfl ?_)))))))))))
       refine zJ (kQ (kB sh24 rfl (zA rfl ?_)))
       refine o_sub rfl rfl rfl (by unfold I64;omega) (zA rfl (zL rfl (q27b) (.lrefl _) (zA rfl (ku rfl (ku rfl (zC rfl (zC rfl (zB ?_))))))))
       refine zI [(1,.lst .ro 1 (zE L)),(9,.int .i64 w),(10,.lst .ro 1 (zE (prtL (y::A) ((1:Int) - w)))),(11,.int .i64 0),(15,accI (y::A)),(17,.lst .ro 1 (zE L)),(18,.int .i64 0)] ([SB.box (Ln.cs l)]) (.n7 rfl) rfl fun fr=>?_
       refine kQ (zA rfl (ks rfl (zA rfl (kf rfl (zA rfl (kf rfl (ks rfl (kE rfl ?_))))))))
       refine zA rfl (kf rfl (zA rfl (kf rfl (zA rfl ?_))))
       refine zS [(1,.lst .ro 1 (zE L)),(9,.int .i64 w),(17,.lst .ro 1 (zE L)),(142,U.bool (decide ((0:Int)=(0:Int)))),(143,.lst .ro 1 (zE (prtL (y::A) ((1:Int) - w)))),(144,.lst .ro 1 (zE (y::A)))] [(144,.slot 15)] ([SB.box (Ln.cs l)]) (.n6 rfl) rfl rfl fun fr=>?_
       refine kf rfl ?_
       refine zS [(1,.lst .ro 1 (zE L)),(9,.int .i64 w),(17,.lst .ro 1 (zE L)),(142,U.bool (decide ((0:Int)=(0:Int)))),(143,.lst .ro 1 (zE (prtL (y::A) ((1:Int) - w)))),(144,.lst .ro 1 (zE (y::A)))] [(144,.slot 15)] ([SB.box (Ln.cs l)]) (.n6 rfl) rfl rfl fun fr=>?_
       refine zA rfl (kf rfl ?_)
       refine o_sub rfl rfl rfl (by unfold I64;omega) (kf rfl (zL rfl (q45c) (.lrefl _) (kf rfl (zL rfl (q23a) (.lrefl _) (kE rfl ?_)))))
       refine zA rfl (kf rfl (zA rfl (kf rfl (zA rfl (kf rfl (zL rfl (q23b) (.lrefl _) ?_))))))
       refine zS [(150,.bool true),(153,.bool true)] [(144,.slot 15)] ([SB.box (Ln.cs l)]) (.n2 rfl) rfl rfl fun fr=>?_
       refine kE rfl ?_
       refine zA rfl (kf rfl (zL rfl (r26) (.lrefl _) (kE rfl ?_)))
       refine zC rfl (zB (za ?_))
       refine⟨.inr rfl,_,.cons _ _ _ _ (.tmp 8) .nil,?_⟩
       exact .refl _
end Go.Proofs.YthhbfbmfhldbaaaDoor.locks
