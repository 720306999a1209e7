import Derived.Test.YtlknfhjfkcboiaaDoorVamT13
set_option linter.unusedVariables false
set_option linter.unusedSimpArgs false
set_option linter.constructorNameAsVariable false
namespace Go.Proofs.YtlknfhjfkcboiaaDoor.night
open Vam
section
variable {is:FuncId→Bool}{orc:Known}
theorem ze25:yT Tryd.prog 25=some ((.cons (.int .i64 0) (.cons .nils (.cons .nils (.cons .nils (.cons (.int .i64 0) (.cons .nils (.cons (.int .i64 0) (.cons (.int .i64 0) (.cons (.int .i64 0) (.cons .nils .nil)))))))))):V):=by kernel_rfl
noncomputable def b10:Code:=(Tryd.f10.body).getD .skip
theorem body10:bodyOf Tryd.prog 10=some (139,b10,[.tmp 4]):=by kernel_rfl
theorem pure10:pureFn Tryd.prog 10=true:=by kernel_rfl
theorem ltr_ok2{b:Bk}(h:VOk b){x:Int}(h1:0≤x)(h2:b.bg+x≤2000):VOk (ltr b x):=⟨ltr_ok h.toBOk h1 (by omega),h2⟩
theorem ltr_cho{b:Bk}{x:Int}{m:List Int}(h:lgt (ltr b x) []=some m):Cho b m:=by
 have h:=chs_cho (zBs h).1.1
 exact⟨h.pw,h.rg,h.mu⟩
theorem spare_lo{b:Bk}{m:List Int}(ho:lgt b []=some m){i j:Nat}(hm:Least (zDa b (wt b m)) 1000 i)(hj:j≤i):∃m2,lgt (ltr b j) []=some m2∧wt b m2=wt b m:=by
 cases j with
 |zero=>exact⟨m,by rw[show ltr b ((0:Nat):Int)=b from ltr_zero b];exact ho,rfl⟩
 |succ j=>
  have h1:=hm.lo j (by omega)
  unfold zDa at h1
  cases hl:lgt (ltr b ((j:Int)+1)) []with
  |none=>rw[hl]at h1;cases h1
  |some m2=>
   rw[hl]at h1
   have h1:decide (wt b m2 > wt b m)=false:=h1
   have h1:=of_decide_eq_false h1
   have e:=ltr_esy b (x:=0) (y:=(j:Int)+1) (by omega)
   rw[ltr_zero]at e
   obtain⟨m3,k1,_,k2⟩:=esy_lgt e hl
   rw[ho]at k1;cases k1
   rw[ltr_wt,ltr_wt]at k2
   exact⟨m2,by rw[show((j+1:Nat):Int)=(j:Int)+1 by omega];exact hl,by omega⟩
abbrev bkA(b:Bk)(x:Int):SB:=.box [.int .i64 x,.lst .ro 1 (zF b.opens),.lst .ro 1 (zF b.ends),.lst .ro 5 (scsU b.scenes),.int .i64 b.fee,.lst .ro 1 (zF b.loads),.int .i64 b.cart,.int .i64 b.cost,.int .i64 b.feast,.lst .ro 1 (zF b.shares)]
set_option maxHeartbeats 16000000 in
set_option maxRecDepth 20000 in
theorem ret10(hi:Off is)(b:Bk)(k:Int)(r24:RetP Tryd.prog is orc 24 [] (.bool true)):RetP Tryd.prog is orc 10 [b.u,.int .i64 k] (.bool true):=by
 have q29:=ret29 (orc:=orc) hi b
 refine yC body10 pure10 (hi 10 (by decide)) rfl rfl (yh (zAG b 4) (.int _ _ _)) (.inl (.bool _ _)) ?_
 cases hv:zBF b with
 |false=>
  rw[hv]at q29
  have q40:=ret40j (orc:=orc) hi hv
  have q21:=ret21j (orc:=orc) hi hv
  refine kQ (yH rfl rfl (zA rfl (zC ?_)))
  refine zK [(1,.int .i64 k),(2,U.box 0 0)] ([SB.box (Bk.cs b)]) (.cons rfl (.cons rfl (.nil rfl))) rfl fun fr=>?_
  refine kQ (zP rfl rfl rfl sh25 rfl (zN rfl (q40) (.lrefl _) (zB rfl (zR rfl rfl rfl (zR rfl rfl rfl (zA rfl (zA rfl (zC ?_))))))))
  refine kQ (zP rfl rfl rfl sh25 rfl (zN rfl (q21) (.lrefl _) (zB rfl (zR rfl rfl rfl (zR rfl rfl rfl (zA rfl (zA rfl (zC ?_))))))))
  refine zK [(1,.int .i64 k),(2,U.box 0 0),(5,.int .i64 0),(6,.int .i64 100),(7,.lst .full 0 []),(8,.int .i64 100)] ([SB.box (Bk.cs b)]) (.c4 rfl rfl rfl rfl (.cons rfl (.cons rfl (.nil rfl)))) rfl fun fr=>?_
  refine k_seq (kQ (zP rfl rfl rfl sh25 rfl (zN rfl (q29) (.lrefl _) (yB rfl rfl (zB rfl (o_gS rfl rfl rfl rfl rfl (o_gS rfl rfl rfl rfl rfl (zT rfl rfl rfl ?_))))))))
  refine zC (k_cT rfl rfl ?_)
  refine kQ (zB rfl (zB rfl (wn rfl rfl rfl (zB rfl (o_gD rfl rfl rfl rfl rfl (zB rfl (o_gD rfl rfl rfl rfl rfl (wn rfl rfl rfl ?_))))))))
  refine o_gD rfl rfl rfl rfl rfl (zB rfl (o_gS rfl rfl rfl rfl rfl (o_gS rfl rfl rfl rfl rfl ?_)))
  refine zM [(5,.int .i64 0),(34,U.bool (decide ((100:Int)=(100:Int)))),(37,U.bool (decide ((100:Int)=(100:Int)))),(39,U.tup [])] [] ([SB.box (Bk.cs b)]) (.c4 rfl rfl rfl rfl (.nil rfl)) rfl rfl fun fr=>?_
  refine o_gD rfl rfl rfl rfl rfl ?_
  refine zM [(5,.int .i64 0),(34,U.bool (decide ((100:Int)=(100:Int)))),(37,U.bool (decide ((100:Int)=(100:Int)))),(39,U.tup [])] [] ([SB.box (Bk.cs b)]) (.c4 rfl rfl rfl rfl (.nil rfl)) rfl rfl fun fr=>?_
  refine zT rfl rfl rfl ?_
  refine zT rfl rfl rfl ?_
  refine zB rfl (o_gD rfl rfl rfl rfl rfl (zB rfl (o_gD rfl rfl rfl rfl rfl (wn rfl rfl rfl (zT rfl rfl rfl ?_)))))
  refine zB rfl (o_gD rfl rfl rfl rfl rfl (zN rfl (r24) (.lrefl _) (zT rfl rfl rfl ?_)))
  refine zM [(48,.bool true)] [] ([SB.box (Bk.cs b)]) (.cons rfl (.nil rfl)) rfl rfl fun fr=>?_
  refine zA rfl (zC (zZ ?_))
  refine⟨.inr rfl,_,.cons _ _ _ _ (.tmp 4) .nil,?_⟩
  exact .refl _
 |true=>
  rw[hv]at q29
  have hV:=(zDd b).1 hv
  have h:=hV.toBOk
  have hsn:=h.sn
  have hbg:=h.bg
  have hb2:=hV.bg2
  have q21:=ret21 (orc:=orc) hi hV
  cases ho:lgt b []with
  |none=>
   have q40:=ret40n (orc:=orc) hi hV ho
   rw[ho]at q21
   have q21:RetP Tryd.prog is orc 21 [b.u] (.tup [.lst .full 0 [],.int .i64 4]):=q21
   refine kQ (yH rfl rfl (zA rfl (zC ?_)))
   refine zK [(1,.int .i64 k),(2,U.box 0 0)] ([SB.box (Bk.cs b)]) (.cons rfl (.cons rfl (.nil rfl))) rfl fun fr=>?_
   refine kQ (zP rfl rfl rfl sh25 rfl (zN rfl (q40) (.lrefl _) (zB rfl (zR rfl rfl rfl (zR rfl rfl rfl (zA rfl (zA rfl (zC ?_))))))))
   refine kQ (zP rfl rfl rfl sh25 rfl (zN rfl (q21) (.lrefl _) (zB rfl (zR rfl rfl rfl (zR rfl rfl rfl (zA rfl (zA rfl (zC ?_))))))))
   refine zK [(1,.int .i64 k),(2,U.box 0 0),(5,.int .i64 0),(6,.int .i64 4),(7,.lst .full 0 []),(8,.int .i64 4)] ([SB.box (Bk.cs b)]) (.c4 rfl rfl rfl rfl (.cons rfl (.cons rfl (.nil rfl)))) rfl fun fr=>?_
   refine k_seq (kQ (zP rfl rfl rfl sh25 rfl (zN rfl (q29) (.lrefl _) (yB rfl rfl (zB rfl (o_gD rfl rfl rfl rfl rfl (zB rfl (o_gD rfl rfl rfl rfl rfl ?_))))))))
   refine wF rfl rfl rfl (zL rfl rfl rfl ?_)
   refine zC (k_cT rfl rfl ?_)
   refine kQ (zB rfl (zB rfl (wn rfl rfl rfl (zB rfl (o_gD rfl rfl rfl rfl rfl (zB rfl (o_gD rfl rfl rfl rfl rfl (wn rfl rfl rfl ?_))))))))
   refine o_gD rfl rfl rfl rfl rfl (zB rfl (o_gD rfl rfl rfl rfl rfl (zB rfl (o_gD rfl rfl rfl rfl rfl (wn rfl rfl rfl ?_)))))
   refine zM [(5,.int .i64 0),(34,U.bool (decide ((4:Int)=(4:Int)))),(37,U.bool (decide ((4:Int)=(100:Int)))),(39,U.bool (decide ((4:Int)=(4:Int))))] [] ([SB.box (Bk.cs b)]) (.c4 rfl rfl rfl rfl (.nil rfl)) rfl rfl fun fr=>?_
   refine o_gD rfl rfl rfl rfl rfl ?_
   refine zM [(5,.int .i64 0),(34,U.bool (decide ((4:Int)=(4:Int)))),(37,U.bool (decide ((4:Int)=(100:Int)))),(39,U.bool (decide ((4:Int)=(4:Int))))] [] ([SB.box (Bk.cs b)]) (.c4 rfl rfl rfl rfl (.nil rfl)) rfl rfl fun fr=>?_
   refine zL rfl rfl rfl ?_
   refine zT rfl rfl rfl ?_
   refine zB rfl (o_gD rfl rfl rfl rfl rfl (zB rfl (o_gD rfl rfl rfl rfl rfl (wn rfl rfl rfl (zT rfl rfl rfl ?_)))))
   refine zB rfl (o_gD rfl rfl rfl rfl rfl (zN rfl (r24) (.lrefl _) (zT rfl rfl rfl ?_)))
   refine zM [(48,.bool true)] [] ([SB.box (Bk.cs b)]) (.cons rfl (.nil rfl)) rfl rfl fun fr=>?_
   refine zA rfl (zC (zZ ?_))
   refine⟨.inr rfl,_,.cons _ _ _ _ (.tmp 4) .nil,?_⟩
   exact .refl _
  |some m=>
   obtain⟨i,hm⟩:=least_ex (zDa b (wt b m)) 1000 (fun x y a c d=>zGi b _ a d)
   have q40:=ret40s (orc:=orc) hi hV ho hm
   rw[ho]at q21
   have q21:RetP Tryd.prog is orc 21 [b.u] (.tup [.lst .ro 1 (zF m),.int .i64 0]):=q21
   have hle:=hm.le
   have hmc:=chs_cho (zBs ho).1.1
   have hml:=hmc.len
   have q31:=ret31 (orc:=orc) hi h hmc
   have q32:=ret32 (orc:=orc) hi h (L:=m) (by omega) hmc.rg
   have q41:=ret41 (orc:=orc) hi i 0 1000
   rw[zFq.2 (by omega)]at q41
   have q38:=ret38 (orc:=orc) hi k ((i:Int)+1) (by omega)
   have hjb:=turnI_b (n:=k) (b:=(i:Int)+1) (by omega)
   obtain⟨j,hj⟩:∃j:Nat,zGD k ((i:Int)+1)=j:=⟨(zGD k ((i:Int)+1)).toNat,by omega⟩
   rw[hj]at q38 hjb
   refine kQ (yH rfl rfl (zA rfl (zC ?_)))
   refine zK [(1,.int .i64 k),(2,U.box 0 0)] ([SB.box (Bk.cs b)]) (.cons rfl (.cons rfl (.nil rfl))) rfl fun fr=>?_
   refine kQ (zP rfl rfl rfl sh25 rfl (zN rfl (q40) (.lrefl _) (zB rfl (zR rfl rfl rfl (zR rfl rfl rfl (zA rfl (zA rfl (zC ?_))))))))
   refine kQ (zP rfl rfl rfl sh25 rfl (zN rfl (q21) (.lrefl _) (zB rfl (zR rfl rfl rfl (zR rfl rfl rfl (zA rfl (zA rfl (zC ?_))))))))
   refine zK [(1,.int .i64 k),(2,U.box 0 0),(5,.int .i64 ↑i),(6,.int .i64 0),(7,.lst .ro 1 (zF m)),(8,.int .i64 0)] ([SB.box (Bk.cs b)]) (.c4 rfl rfl rfl rfl (.cons rfl (.cons rfl (.nil rfl)))) rfl fun fr=>?_
   refine k_seq (kQ (zP rfl rfl rfl sh25 rfl (zN rfl (q29) (.lrefl _) (yB rfl rfl (zB rfl (o_gD rfl rfl rfl rfl rfl (zB rfl (o_gD rfl rfl rfl rfl rfl ?_))))))))
   refine wF rfl rfl rfl (zL rfl rfl rfl ?_)
   refine zC (k_cF rfl rfl ?_)
   refine zU (k_seq (kQ (zB rfl (wF rfl rfl rfl (zB rfl (o_gD rfl rfl rfl rfl rfl (zB rfl (o_gD rfl rfl rfl rfl rfl ?_))))))))
   refine zN rfl (q41) (.lrefl _) (o_gD rfl rfl rfl rfl rfl (yB rfl rfl (zL rfl rfl rfl ?_)))
   refine zB rfl (o_gD rfl rfl rfl rfl rfl (zP rfl rfl rfl sh25 rfl ?_))
   refine zM [(1,.int .i64 k),(2,U.box 0 0),(5,.int .i64 ↑i),(7,.lst .ro 1 (zF m)),(56,U.bool !Bool.true),(57,U.agg (Bk.cs b))] [] ([SB.box (Bk.cs b)]) (.c4 rfl rfl rfl rfl (.cons rfl (.cons rfl (.nil rfl)))) rfl rfl fun fr=>?_
   refine o_gD rfl rfl rfl rfl rfl ?_
   refine zM [(1,.int .i64 k),(2,U.box 0 0),(5,.int .i64 ↑i),(7,.lst .ro 1 (zF m)),(56,U.bool !Bool.true),(57,U.agg (Bk.cs b))] [] ([SB.box (Bk.cs b)]) (.c4 rfl rfl rfl rfl (.cons rfl (.cons rfl (.nil rfl)))) rfl rfl fun fr=>?_
   refine zB rfl (o_gD rfl rfl rfl rfl rfl (zN rfl (q31) (.lrefl _) (o_gD rfl rfl rfl rfl rfl (yB rfl rfl (zL rfl rfl rfl ?_)))))
   refine zC ?_
   refine zK [(1,.int .i64 k),(2,U.box 0 0),(5,.int .i64 ↑i),(7,.lst .ro 1 (zF m)),(61,U.bool !Bool.true)] ([SB.box (Bk.cs b)]) (.c4 rfl rfl rfl rfl (.cons rfl (.nil rfl))) rfl fun fr=>?_
   refine k_cF rfl rfl ?_
   refine zU (k_seq (k_drawA [.read true,.read true,.pre,.pre,.plain,.plain] [(2,9)] (by kernel_rfl) (by kernel_rfl) (by kernel_rfl) ?_))
   refine yM rfl (zP rfl rfl rfl sh25 rfl (zC rfl)) ?_
   refine yM rfl (zP rfl rfl rfl sh25 rfl (zC rfl)) ?_
   refine d_pre rfl ze25 ?_
   refine d_pre rfl ze25 ?_
   refine zG (zd rfl rfl sh25 rfl rfl rfl rfl rfl (zC rfl)) ?_
   refine zG (zd rfl rfl sh25 rfl rfl rfl rfl rfl (zC rfl)) ?_
   refine zCg ⟨fun p hp=>by simp only[List.mem_cons,List.not_mem_nil,or_false]at hp;rcases hp with rfl<;>exact⟨_,_,_,_,_,rfl,rfl,Nat.ne_of_beq_eq_false rfl,rfl⟩,?_⟩
   refine k_seq (k_drawA [.plain,.read true,.plain,.plain,.plain,.read false,.plain,.plain,.read true,.plain,.plain,.plain,.plain,.plain,.plain,.plain] [(71,76)] (by kernel_rfl) (by kernel_rfl) (by kernel_rfl) ?_)
   refine zG (zD rfl rfl zAD (zC rfl)) ?_
   refine yM rfl (zE rfl rfl rfl sh3 rfl (zC rfl)) (zG (zB rfl (zC rfl)) (zG (zB rfl (zC rfl)) ?_))
   refine zG (yV rfl rfl rfl (by unfold I64;omega) (zC rfl)) ?_
   refine zBD rfl (q38) (.int _ _) (.lrefl _) ?_
   refine zG (yV rfl rfl rfl (by unfold I64;omega) (zC rfl)) ?_
   refine zG (zD rfl rfl zAD (zC rfl)) ?_
   refine yM rfl (zE rfl rfl rfl sh3 rfl (zC rfl)) (zG (zB rfl (zC rfl)) ?_)
   refine zG (yV rfl rfl rfl (by unfold I64;omega) (zC rfl)) ?_
   refine zG (yV rfl rfl rfl (by unfold I64;omega) (zC rfl)) ?_
   refine zG (zD rfl rfl zAD (zC rfl)) ?_
   refine zG (wB rfl rfl sh3 rfl rfl (zC rfl)) ?_
   refine zG (zD rfl rfl zAD (zC rfl)) ?_
   refine zG (wB rfl rfl sh3 rfl rfl (zC rfl)) ?_
   refine zCg ⟨fun p hp=>by simp only[List.mem_cons,List.not_mem_nil,or_false]at hp;rcases hp with rfl<;>exact⟨_,_,_,_,_,rfl,rfl,Nat.ne_of_beq_eq_false rfl,rfl⟩,?_⟩
   refine k_cut (fun s=>s.st=[.box (Bk.cs b),bkA b (b.bg+j),bkA b (b.bg+i+1)]∧Holds s [(2,.box 0 0),(5,.int .i64 i),(7,.lst .ro 1 (zF m)),(10,.box 2 0)]) ?_ (fun st hM=>?_)
   ·by_cases c1:b.bg+j≤2000
    ·obtain⟨m2,k1,k2⟩:=spare_lo ho hm (j:=j) (by omega)
     have hc2:=ltr_cho k1
     have hl2:=hc2.len
     have q21l:=ret21 (orc:=orc) hi (ltr_ok2 hV (x:=j) (by omega) c1)
     rw[k1]at q21l
     have q21l:RetP Tryd.prog is orc 21 [(ltr b j).u] (.tup [.lst .ro 1 (zF m2),.int .i64 0]):=q21l
     have q31l:=ret31 (orc:=orc) hi h hc2
     have q32l:=ret32 (orc:=orc) hi h (L:=m2) (by omega) hc2.rg
     rw[k2]at q32l
     generalize wt b m=w at*
     refine kQ (zD rfl rfl zAD (zE rfl rfl rfl sh3 rfl (zDF rfl rfl rfl (zC ?_))))
     refine zK [(2,U.box 0 0),(5,.int .i64 ↑i),(7,.lst .ro 1 (zF m)),(9,U.box 1 0),(10,U.box 2 0),(80,U.bool (decide (Bk.bg b+ ↑j≤(2000:Int))))] ([SB.box (Bk.cs b),SB.box [.int .i64 (Bk.bg b+ ↑j),.lst .ro 1 (zF (Bk.opens b)),.lst .ro 1 (zF (Bk.ends b)),.lst .ro 5 (scsU (Bk.scenes b)),.int .i64 (Bk.fee b),.lst .ro 1 (zF (Bk.loads b)),.int .i64 (Bk.cart b),.int .i64 (Bk.cost b),.int .i64 (Bk.feast b),.lst .ro 1 (zF (Bk.shares b))],SB.box [.int .i64 (Bk.bg b+ ↑i+(1:Int)),.lst .ro 1 (zF (Bk.opens b)),.lst .ro 1 (zF (Bk.ends b)),.lst .ro 5 (scsU (Bk.scenes b)),.int .i64 (Bk.fee b),.lst .ro 1 (zF (Bk.loads b)),.int .i64 (Bk.cart b),.int .i64 (Bk.cost b),.int .i64 (Bk.feast b),.lst .ro 1 (zF (Bk.shares b))]]) (.c4 rfl rfl rfl rfl (.cons rfl (.cons rfl (.nil rfl)))) rfl fun fr=>?_
     refine k_cT rfl (decide_eq_true (by omega)) (kQ (zP rfl rfl rfl sh25 rfl (zN rfl (q21l) (.lrefl _) (zB rfl (zR rfl rfl rfl (zR rfl rfl rfl (zA rfl (zA rfl ?_))))))))
     refine zC (k_seq (zAz [.plain,.plain,.plain,.plain,.plain,.plain,.plain,.plain,.plain,.read true,.plain,.read false,.read true,.plain,.plain,.plain,.plain] (by kernel_rfl) (by kernel_rfl) (by kernel_rfl) ?_))
     refine zG (zB rfl (zC rfl)) (zG (wF rfl rfl rfl (zC rfl)) ?_)
     refine zG (zB rfl (zC rfl)) (d_gD rfl rfl rfl rfl rfl (zG (zP rfl rfl rfl sh25 rfl (zC rfl)) ?_))
     refine d_gD rfl rfl rfl rfl rfl (zG (zB rfl (zC rfl)) (d_gD rfl rfl rfl rfl rfl (zG (zN rfl (q31l) (.lrefl _) (zC rfl)) ?_)))
     refine d_gD rfl rfl rfl rfl rfl (zG (yB rfl rfl (zC rfl)) ?_)
     refine zG (zL rfl rfl rfl (zC rfl)) ?_
     refine zG (zB rfl (zC rfl)) ?_
     refine zBj [(2,U.box 0 0),(5,.int .i64 ↑i),(7,.lst .ro 1 (zF m)),(10,U.box 2 0),(11,.lst .ro 1 (zF m2)),(94,U.bool !Bool.true)] [] ([SB.box (Bk.cs b),SB.box [.int .i64 (Bk.bg b+ ↑j),.lst .ro 1 (zF (Bk.opens b)),.lst .ro 1 (zF (Bk.ends b)),.lst .ro 5 (scsU (Bk.scenes b)),.int .i64 (Bk.fee b),.lst .ro 1 (zF (Bk.loads b)),.int .i64 (Bk.cart b),.int .i64 (Bk.cost b),.int .i64 (Bk.feast b),.lst .ro 1 (zF (Bk.shares b))],SB.box [.int .i64 (Bk.bg b+ ↑i+(1:Int)),.lst .ro 1 (zF (Bk.opens b)),.lst .ro 1 (zF (Bk.ends b)),.lst .ro 5 (scsU (Bk.scenes b)),.int .i64 (Bk.fee b),.lst .ro 1 (zF (Bk.loads b)),.int .i64 (Bk.cart b),.int .i64 (Bk.cost b),.int .i64 (Bk.feast b),.lst .ro 1 (zF (Bk.shares b))]]) (.c4 rfl rfl rfl rfl (.cons rfl (.cons rfl (.nil rfl)))) rfl rfl fun fr=>?_
     refine d_gD rfl rfl rfl rfl rfl ?_
     refine zBj [(2,U.box 0 0),(5,.int .i64 ↑i),(7,.lst .ro 1 (zF m)),(10,U.box 2 0),(11,.lst .ro 1 (zF m2)),(94,U.bool !Bool.true)] [] ([SB.box (Bk.cs b),SB.box [.int .i64 (Bk.bg b+ ↑j),.lst .ro 1 (zF (Bk.opens b)),.lst .ro 1 (zF (Bk.ends b)),.lst .ro 5 (scsU (Bk.scenes b)),.int .i64 (Bk.fee b),.lst .ro 1 (zF (Bk.loads b)),.int .i64 (Bk.cart b),.int .i64 (Bk.cost b),.int .i64 (Bk.feast b),.lst .ro 1 (zF (Bk.shares b))],SB.box [.int .i64 (Bk.bg b+ ↑i+(1:Int)),.lst .ro 1 (zF (Bk.opens b)),.lst .ro 1 (zF (Bk.ends b)),.lst .ro 5 (scsU (Bk.scenes b)),.int .i64 (Bk.fee b),.lst .ro 1 (zF (Bk.loads b)),.int .i64 (Bk.cart b),.int .i64 (Bk.cost b),.int .i64 (Bk.feast b),.lst .ro 1 (zF (Bk.shares b))]]) (.c4 rfl rfl rfl rfl (.cons rfl (.cons rfl (.nil rfl)))) rfl rfl fun fr=>?_
     refine yM rfl (zP rfl rfl rfl sh25 rfl (zC rfl)) ?_
     refine d_gD rfl rfl rfl rfl rfl (zG (zB rfl (zC rfl)) (d_gD rfl rfl rfl rfl rfl (zBD rfl (q32l) (.int _ _) (.lrefl _) ?_)))
     refine d_gD rfl rfl rfl rfl rfl (yM rfl (zP rfl rfl rfl sh25 rfl (zC rfl)) ?_)
     refine d_gD rfl rfl rfl rfl rfl (zG (zB rfl (zC rfl)) (d_gD rfl rfl rfl rfl rfl (zG (zN rfl (q32) (.lrefl _) (zC rfl)) ?_)))
     refine d_gD rfl rfl rfl rfl rfl (zG (wF rfl rfl rfl (zC rfl)) ?_)
     refine zG (zL rfl rfl rfl (zC rfl)) ?_
     refine zCg ?_
     refine zK [(2,U.box 0 0),(5,.int .i64 ↑i),(7,.lst .ro 1 (zF m)),(10,U.box 2 0),(102,U.bool (decide (w≠w)))] ([SB.box (Bk.cs b),SB.box [.int .i64 (Bk.bg b+ ↑j),.lst .ro 1 (zF (Bk.opens b)),.lst .ro 1 (zF (Bk.ends b)),.lst .ro 5 (scsU (Bk.scenes b)),.int .i64 (Bk.fee b),.lst .ro 1 (zF (Bk.loads b)),.int .i64 (Bk.cart b),.int .i64 (Bk.cost b),.int .i64 (Bk.feast b),.lst .ro 1 (zF (Bk.shares b))],SB.box [.int .i64 (Bk.bg b+ ↑i+(1:Int)),.lst .ro 1 (zF (Bk.opens b)),.lst .ro 1 (zF (Bk.ends b)),.lst .ro 5 (scsU (Bk.scenes b)),.int .i64 (Bk.fee b),.lst .ro 1 (zF (Bk.loads b)),.int .i64 (Bk.cart b),.int .i64 (Bk.cost b),.int .i64 (Bk.feast b),.lst .ro 1 (zF (Bk.shares b))]]) (.c4 rfl rfl rfl rfl (.cons rfl (.nil rfl))) rfl fun fr=>?_
     refine k_cF rfl (decide_eq_false (by omega)) (zU ?_)
     exact⟨rfl,rfl,.c4 rfl rfl rfl rfl (.nil rfl)⟩
    ·refine kQ ?_
     refine zD rfl rfl zAD (zE rfl rfl rfl sh3 rfl (zDF rfl rfl rfl (zC ?_)))
     refine zK [(2,U.box 0 0),(5,.int .i64 ↑i),(7,.lst .ro 1 (zF m)),(9,U.box 1 0),(10,U.box 2 0),(80,U.bool (decide (Bk.bg b+ ↑j≤(2000:Int))))] ([SB.box (Bk.cs b),SB.box [.int .i64 (Bk.bg b+ ↑j),.lst .ro 1 (zF (Bk.opens b)),.lst .ro 1 (zF (Bk.ends b)),.lst .ro 5 (scsU (Bk.scenes b)),.int .i64 (Bk.fee b),.lst .ro 1 (zF (Bk.loads b)),.int .i64 (Bk.cart b),.int .i64 (Bk.cost b),.int .i64 (Bk.feast b),.lst .ro 1 (zF (Bk.shares b))],SB.box [.int .i64 (Bk.bg b+ ↑i+(1:Int)),.lst .ro 1 (zF (Bk.opens b)),.lst .ro 1 (zF (Bk.ends b)),.lst .ro 5 (scsU (Bk.scenes b)),.int .i64 (Bk.fee b),.lst .ro 1 (zF (Bk.loads b)),.int .i64 (Bk.cart b),.int .i64 (Bk.cost b),.int .i64 (Bk.feast b),.lst .ro 1 (zF (Bk.shares b))]]) (.c4 rfl rfl rfl rfl (.cons rfl (.cons rfl (.nil rfl)))) rfl fun fr=>?_
     refine k_cF rfl (decide_eq_false (by omega)) (zU ?_)
     exact⟨rfl,rfl,.c4 rfl rfl rfl rfl (.nil rfl)⟩
   obtain⟨hst,hs⟩:=hM
   obtain⟨fr0,al0,st0⟩:=st
   have hst:st0=_:=hst
   subst hst
   rw[hs.eq]
   by_cases c2:i=1000
   ·subst c2
    refine k_seq (kQ (zB rfl (wn rfl rfl rfl (zB rfl (o_gS rfl rfl rfl rfl rfl (o_gS rfl rfl rfl rfl rfl (o_gS rfl rfl rfl rfl rfl (zT rfl rfl rfl ?_))))))))
    refine zC (k_cT rfl rfl ?_)
    refine kQ (zN rfl (r24) (.lrefl _) (zA rfl (zC (zZ ?_))))
    refine⟨.inr rfl,_,.cons _ _ _ _ (.tmp 4) .nil,?_⟩
    exact .refl _
   ·by_cases c3:b.bg+i+1≤2000
    ·have hc:=hm.hi i (Nat.le_refl _) (by omega)
     unfold zDa at hc
     have q21l:=ret21 (orc:=orc) hi (ltr_ok2 hV (x:=(i:Int)+1) (by omega) (by omega))
     have e:(ltr b ((i:Int)+1)).u=.agg [.int .i64 (b.bg+i+1),.lst .ro 1 (zF b.opens),.lst .ro 1 (zF b.ends),.lst .ro 5 (scsU b.scenes),.int .i64 b.fee,.lst .ro 1 (zF b.loads),.int .i64 b.cart,.int .i64 b.cost,.int .i64 b.feast,.lst .ro 1 (zF b.shares)]:=by
      show U.agg [.int .i64 (b.bg+((i:Int)+1)),_,_,_,_,_,_,_,_,_]=_
      rw[Int.add_assoc];rfl
     rw[e]at q21l
     cases hl:lgt (ltr b ((i:Int)+1)) []with
     |none=>
      rw[hl]at q21l
      have q21l:RetP Tryd.prog is orc 21 [.agg [.int .i64 (b.bg+i+1),.lst .ro 1 (zF b.opens),.lst .ro 1 (zF b.ends),.lst .ro 5 (scsU b.scenes),.int .i64 b.fee,.lst .ro 1 (zF b.loads),.int .i64 b.cart,.int .i64 b.cost,.int .i64 b.feast,.lst .ro 1 (zF b.shares)]] (.tup [.lst .full 0 [],.int .i64 4]):=q21l
      refine k_seq (kQ (zB rfl (wn rfl rfl rfl (zB rfl (o_gD rfl rfl rfl rfl (decide_eq_false (by omega)) (zD rfl rfl zAD (o_gD rfl rfl rfl rfl (decide_eq_false (by omega)) (zE rfl rfl rfl sh3 rfl ?_))))))))
      refine o_gD rfl rfl rfl rfl (decide_eq_false (by omega)) (zEq rfl rfl rfl (zL rfl rfl (decide_eq_false (by omega)) ?_))
      refine zC (k_cF rfl (decide_eq_false (by omega)) (zU (kQ (zP rfl rfl rfl sh25 rfl (zN rfl (q21l) (.lrefl _) (zB rfl (zR rfl rfl rfl (zR rfl rfl rfl ?_))))))))
      refine zA rfl (zA rfl (zC ?_))
      refine zK [(2,U.box 0 0),(6,.int .i64 4),(7,.lst .ro 1 (zF m)),(13,.lst .full 0 [])] ([SB.box (Bk.cs b),bkA b (Bk.bg b+ ↑j),bkA b (Bk.bg b+ ↑i+(1:Int))]) (.c4 rfl rfl rfl rfl (.nil rfl)) rfl fun fr=>?_
      refine k_seq (zAz [.plain,.plain,.plain,.plain,.plain,.plain,.plain,.plain,.plain,.plain,.plain,.read true,.plain,.read false,.read true,.plain,.plain,.plain,.plain,.plain,.plain,.plain,.plain,.plain] (by kernel_rfl) (by kernel_rfl) (by kernel_rfl) ?_)
      refine zG (zB rfl (zC rfl)) (zG (wn rfl rfl rfl (zC rfl)) ?_)
      refine zG (zB rfl (zC rfl)) (d_gS rfl rfl rfl rfl rfl (d_gS rfl rfl rfl rfl rfl (d_gS rfl rfl rfl rfl rfl (zDL rfl rfl rfl rfl ?_))))
      refine zDL rfl rfl rfl rfl ?_
      refine zDL rfl rfl rfl rfl ?_
      refine zBj [(2,U.box 0 0),(7,.lst .ro 1 (zF m)),(13,.lst .full 0 []),(118,U.bool (decide ((4:Int)=(4:Int)))),(121,U.tup []),(124,U.tup [])] [] ([SB.box (Bk.cs b),bkA b (Bk.bg b+ ↑j),bkA b (Bk.bg b+ ↑i+(1:Int))]) (.c4 rfl rfl rfl rfl (.cons rfl (.cons rfl (.nil rfl)))) rfl rfl fun fr=>?_
      refine d_gS rfl rfl rfl rfl rfl (d_gS rfl rfl rfl rfl rfl (zDL rfl rfl rfl rfl ?_))
      refine zDL rfl rfl rfl rfl ?_
      refine zDL rfl rfl rfl rfl ?_
      refine zDL rfl rfl rfl rfl ?_
      refine zDL rfl rfl rfl rfl ?_
      refine zDL rfl rfl rfl rfl ?_
      refine zDL rfl rfl rfl rfl ?_
      refine zBj [(118,U.bool (decide ((4:Int)=(4:Int)))),(126,U.tup []),(133,U.tup [])] [] ([SB.box (Bk.cs b),bkA b (Bk.bg b+ ↑j),bkA b (Bk.bg b+ ↑i+(1:Int))]) (.cons rfl (.cons rfl (.cons rfl (.nil rfl)))) rfl rfl fun fr=>?_
      refine d_gS rfl rfl rfl rfl rfl (zG (zT rfl rfl rfl (zC rfl)) ?_)
      refine zG (zB rfl (zC rfl)) (d_gD rfl rfl rfl rfl rfl (zG (zN rfl (r24) (.lrefl _) (zC rfl)) ?_))
      refine zG (zT rfl rfl rfl (zC rfl)) ?_
      refine zG (zA rfl (zC rfl)) ?_
      refine zCg ?_
      refine zZ ?_
      refine⟨.inr rfl,_,.cons _ _ _ _ (.tmp 4) .nil,?_⟩
      exact .refl _
     |some m2=>
      rw[hl]at q21l hc
      have hc:decide (wt b m2 > wt b m)=true:=hc
      have hc:=of_decide_eq_true hc
      have q21l:RetP Tryd.prog is orc 21 [.agg [.int .i64 (b.bg+i+1),.lst .ro 1 (zF b.opens),.lst .ro 1 (zF b.ends),.lst .ro 5 (scsU b.scenes),.int .i64 b.fee,.lst .ro 1 (zF b.loads),.int .i64 b.cart,.int .i64 b.cost,.int .i64 b.feast,.lst .ro 1 (zF b.shares)]] (.tup [.lst .ro 1 (zF m2),.int .i64 0]):=q21l
      have hc2:=ltr_cho hl
      have hl2:=hc2.len
      have q31l:=ret31 (orc:=orc) hi h hc2
      have q32l:=ret32 (orc:=orc) hi h (L:=m2) (by omega) hc2.rg
      generalize wt b m=w at*
      generalize wt b m2=w2 at*
      refine k_seq (kQ (zB rfl (wn rfl rfl rfl (zB rfl (o_gD rfl rfl rfl rfl (decide_eq_false (by omega)) (zD rfl rfl zAD (o_gD rfl rfl rfl rfl (decide_eq_false (by omega)) (zE rfl rfl rfl sh3 rfl ?_))))))))
      refine o_gD rfl rfl rfl rfl (decide_eq_false (by omega)) (zEq rfl rfl rfl (zL rfl rfl (decide_eq_false (by omega)) ?_))
      refine zC (k_cF rfl (decide_eq_false (by omega)) (zU (kQ (zP rfl rfl rfl sh25 rfl (zN rfl (q21l) (.lrefl _) (zB rfl (zR rfl rfl rfl (zR rfl rfl rfl ?_))))))))
      refine zA rfl (zA rfl (zC ?_))
      refine zK [(2,U.box 0 0),(6,.int .i64 0),(7,.lst .ro 1 (zF m)),(13,.lst .ro 1 (zF m2))] ([SB.box (Bk.cs b),bkA b (Bk.bg b+ ↑j),bkA b (Bk.bg b+ ↑i+(1:Int))]) (.c4 rfl rfl rfl rfl (.nil rfl)) rfl fun fr=>?_
      refine k_seq (zAz [.plain,.plain,.plain,.plain,.plain,.plain,.plain,.plain,.plain,.plain,.plain,.read true,.plain,.read false,.read true,.plain,.plain,.plain,.plain,.plain,.plain,.plain,.plain,.plain] (by kernel_rfl) (by kernel_rfl) (by kernel_rfl) ?_)
      refine zG (zB rfl (zC rfl)) (zG (wn rfl rfl rfl (zC rfl)) ?_)
      refine zG (zB rfl (zC rfl)) (d_gD rfl rfl rfl rfl rfl (zG (zB rfl (zC rfl)) (d_gD rfl rfl rfl rfl rfl (zG (wn rfl rfl rfl (zC rfl)) ?_))))
      refine d_gD rfl rfl rfl rfl rfl (zG (zB rfl (zC rfl)) (d_gD rfl rfl rfl rfl rfl (zG (zP rfl rfl rfl sh25 rfl (zC rfl)) ?_)))
      refine d_gD rfl rfl rfl rfl rfl (zG (zB rfl (zC rfl)) (d_gD rfl rfl rfl rfl rfl (zG (zN rfl (q31l) (.lrefl _) (zC rfl)) ?_)))
      refine zBj [(2,U.box 0 0),(7,.lst .ro 1 (zF m)),(13,.lst .ro 1 (zF m2)),(118,U.bool (decide ((0:Int)=(4:Int)))),(121,U.bool (decide ((0:Int)=(0:Int)))),(124,.bool true)] [] ([SB.box (Bk.cs b),bkA b (Bk.bg b+ ↑j),bkA b (Bk.bg b+ ↑i+(1:Int))]) (.c4 rfl rfl rfl rfl (.cons rfl (.cons rfl (.nil rfl)))) rfl rfl fun fr=>?_
      refine d_gD rfl rfl rfl rfl rfl ?_
      refine zBj [(2,U.box 0 0),(7,.lst .ro 1 (zF m)),(13,.lst .ro 1 (zF m2)),(118,U.bool (decide ((0:Int)=(4:Int)))),(121,U.bool (decide ((0:Int)=(0:Int)))),(124,.bool true)] [] ([SB.box (Bk.cs b),bkA b (Bk.bg b+ ↑j),bkA b (Bk.bg b+ ↑i+(1:Int))]) (.c4 rfl rfl rfl rfl (.cons rfl (.cons rfl (.nil rfl)))) rfl rfl fun fr=>?_
      refine zG (zT rfl rfl rfl (zC rfl)) ?_
      refine d_gD rfl rfl rfl rfl rfl (zG (zB rfl (zC rfl)) (d_gD rfl rfl rfl rfl rfl (yM rfl (zP rfl rfl rfl sh25 rfl (zC rfl)) ?_)))
      refine d_gD rfl rfl rfl rfl rfl (zG (zB rfl (zC rfl)) (d_gD rfl rfl rfl rfl rfl (zBD rfl (q32l) (.int _ _) (.lrefl _) ?_)))
      refine d_gD rfl rfl rfl rfl rfl (yM rfl (zP rfl rfl rfl sh25 rfl (zC rfl)) ?_)
      refine d_gD rfl rfl rfl rfl rfl (zG (zB rfl (zC rfl)) (d_gD rfl rfl rfl rfl rfl (zG (zN rfl (q32) (.lrefl _) (zC rfl)) ?_)))
      refine d_gD rfl rfl rfl rfl rfl (zG (zEq rfl rfl rfl (zC rfl)) ?_)
      refine zBj [(118,U.bool (decide ((0:Int)=(4:Int)))),(126,.bool true),(133,U.bool (decide (w<w2)))] [] ([SB.box (Bk.cs b),bkA b (Bk.bg b+ ↑j),bkA b (Bk.bg b+ ↑i+(1:Int))]) (.cons rfl (.cons rfl (.cons rfl (.nil rfl)))) rfl rfl fun fr=>?_
      refine d_gD rfl rfl rfl rfl rfl ?_
      refine zBj [(118,U.bool (decide ((0:Int)=(4:Int)))),(126,.bool true),(133,U.bool (decide (w<w2)))] [] ([SB.box (Bk.cs b),bkA b (Bk.bg b+ ↑j),bkA b (Bk.bg b+ ↑i+(1:Int))]) (.cons rfl (.cons rfl (.cons rfl (.nil rfl)))) rfl rfl fun fr=>?_
      refine zG (zT rfl rfl rfl (zC rfl)) ?_
      refine zG (zL rfl rfl rfl (zC rfl)) ?_
      refine zG (zB rfl (zC rfl)) (d_gD rfl rfl rfl rfl (by assumption) ?_)
      refine zG (zN rfl (r24) (.lrefl _) (zC rfl)) ?_
      refine zG (zT rfl rfl (by assumption) (zC rfl)) ?_
      refine zG (zA rfl (zC rfl)) ?_
      refine zCg ?_
      refine zZ ?_
      refine⟨.inr rfl,_,.cons _ _ _ _ (.tmp 4) .nil,?_⟩
      exact .refl _
    ·refine k_seq ?_
     refine kQ (zB rfl (wn rfl rfl rfl (zB rfl (o_gD rfl rfl rfl rfl (decide_eq_false (by omega)) (zD rfl rfl zAD (o_gD rfl rfl rfl rfl (decide_eq_false (by omega)) (zE rfl rfl rfl sh3 rfl (o_gD rfl rfl rfl rfl (decide_eq_false (by omega)) ?_))))))))
     refine zEq rfl rfl rfl (zL rfl rfl (decide_eq_false (by omega)) ?_)
     refine zC (k_cT rfl (decide_eq_true (by omega)) (kQ (zN rfl (r24) (.lrefl _) (zA rfl (zC (zZ ?_))))))
     refine⟨.inr rfl,_,.cons _ _ _ _ (.tmp 4) .nil,?_⟩
     exact .refl _
end
section
variable {is:FuncId→Bool}{orc:Known}
theorem ret10_all(hi:Off is)(r24:RetP Tryd.prog is orc 24 [] (.bool true)):∀us,ShpAs Tryd.prog [25,3] us→RetP Tryd.prog is orc 10 us (.bool true):=by
 intro us h
 cases h with
 |cons _ _ u us h1 h=>cases h with
 |cons _ _ v us h2 h=>
 cases h
 obtain⟨fs,hu⟩:=und25
 unfold ShpA at h1 h2
 rw[hu]at h1
 rw[u3]at h2
 obtain⟨b,rfl⟩:=arg_bk h1
 obtain⟨n,rfl⟩:=arg_int h2
 exact ret10 hi b n r24
end
end Go.Proofs.YtlknfhjfkcboiaaDoor.night
