import Derived.Test.YthhbfbmfhldbaaaDoorVamT10
set_option linter.unusedVariables false
set_option linter.unusedSimpArgs false
set_option linter.constructorNameAsVariable false
namespace Go.Proofs.YthhbfbmfhldbaaaDoor.locks
open Vam
variable {is:FuncId→Bool}{orc:Known}{l:Ln}
theorem pl75:zFj Tryd.prog 75=some [(0,4),(4,1)]:=by kernel_rfl
theorem sh73:shOf Tryd.prog 73=.many 4:=by kernel_rfl
theorem sh75:shOf Tryd.prog 75=.many 5:=by kernel_rfl
theorem ze75:yO Tryd.prog 75=some ((.cons .nils (.cons (.int .i64 0) (.cons (.int .i64 0) (.cons (.int .i64 0) (.cons .nils .nil))))):V):=by kernel_rfl
noncomputable def b72:Code:=(Tryd.f72.body).getD .skip
theorem body72:bodyOf Tryd.prog 72=some (32,b72,[.cell 2 75]):=by kernel_rfl
theorem pure72:pureFn Tryd.prog 72=true:=by kernel_rfl
theorem zCC(S:List Bool):FlatU (.agg (zU S)):=.agg _ fun c hc=>by
 obtain⟨x,_,rfl⟩:=List.mem_map.1 hc
 exact .bool _
theorem pl_alo0(l:Ln)(H:List Int)(n:Nat)(hn:n=l.slots.length):plL (onF H) (woF (strF l) (onF H)) n=aloL l 0 H:=by
 subst hn
 refine List.map_congr_left fun k _=>?_
 unfold plI aloI woF onF strF
 by_cases h:(k:Int)∈H
 ·rw[if_pos h,kF h];simp
 ·rw[if_neg h,kG h]
  by_cases h2:at' l.slots k= -1
  ·rw[if_pos h2,kF h2];simp
  ·rw[if_neg h2,kG h2];simp
theorem pl_alo1(l:Ln)(H:List Int)(n:Nat)(hn:n=l.slots.length):plL (woF (strF l) (onF H)) (onF H) n=aloL l 1 H:=by
 subst hn
 refine List.map_congr_left fun k _=>?_
 unfold plI aloI woF onF strF
 by_cases h:(k:Int)∈H
 ·rw[if_pos h,kF h];simp
 ·rw[if_neg h,kG h]
  by_cases h2:at' l.slots k= -1
  ·rw[if_pos h2,kF h2];simp
  ·rw[if_neg h2,kG h2];simp
set_option maxHeartbeats 16000000 in
theorem ret72(hi:Off is)(hn:l.slots.length≤16){w:Int}(hw:w=0∨w=1){H:List Int}(hH:∀x∈H,0≤x∧x<16)(hl:H.length≤4096):RetP Tryd.prog is orc 72 [witU l w H] (duetU l (aloL l w H)):=by
 refine yJ body72 pure72 (hi 72 (by decide)) rfl rfl (zAQ (dat_wit l w H 5)) (.inl (dat_duet l _ 5)) ?_
 have q100:=ret100 (orc:=orc) hi hH hl
 have q66:=ret66 (orc:=orc) hi (l:=l) hn
 have q67:=ret67 (orc:=orc) hi (strF l) (onF H)
 have l1:=zt (onF H)
 have l2:=zt (strF l)
 have l3:=zt (woF (strF l) (onF H))
 rcases hw with rfl|rfl
 ·have q74:=ret74 (orc:=orc) hi (w:=0) (by omega)
  have q64:=ret64 (orc:=orc) hi (onF H) (woF (strF l) (onF H)) hn
  rw[pl_alo0 l H _ rfl]at q64
  unfold spU at q64
  generalize aloL l 0 H=A at*
  generalize b16 (onF H)=S at*
  generalize b16 (woF (strF l) (onF H))=R at*
  generalize b16 (strF l)=T at*
  obtain⟨a0,a1,a2,a3,a4,a5,a6,a7,a8,a9,a10,a11,a12,a13,a14,a15,rfl⟩:=zAm l1
  obtain⟨b0,b1,b2,b3,b4,b5,b6,b7,b8,b9,b10,b11,b12,b13,b14,b15,rfl⟩:=zAm l2
  obtain⟨c0,c1,c2,c3,c4,c5,c6,c7,c8,c9,c10,c11,c12,c13,c14,c15,rfl⟩:=zAm l3
  refine kQ (yb rfl rfl (yL rfl ze75 ?_))
  refine zB ?_
  refine zI [(1,U.box 0 0),(2,U.box 1 0)] ([SB.box [.lst .ro 1 (zE (Ln.slots l)),.int .i64 (Ln.left l),.int .i64 (Ln.right l),.int .i64 (Ln.run l),.int .i64 0,.lst .ro 1 (zE H)],SB.box [.lst .full 0 [],.int .i64 0,.int .i64 0,.int .i64 0,.lst .full 0 []]]) (.n2 rfl) rfl fun fr=>?_
  refine kQ (yL rfl ze85 ?_)
  refine zB ?_
  refine zI [(1,U.box 0 0),(2,U.box 1 0),(3,U.box 2 0)] ([SB.box [.lst .ro 1 (zE (Ln.slots l)),.int .i64 (Ln.left l),.int .i64 (Ln.right l),.int .i64 (Ln.run l),.int .i64 0,.lst .ro 1 (zE H)],SB.box [.lst .full 0 [],.int .i64 0,.int .i64 0,.int .i64 0,.lst .full 0 []],SB.box [.bool false,.bool false,.bool false,.bool false,.bool false,.bool false,.bool false,.bool false,.bool false,.bool false,.bool false,.bool false,.bool false,.bool false,.bool false,.bool false,.bool false,.bool false,.bool false,.bool false,.bool false,.bool false,.bool false,.bool false,.bool false,.bool false,.bool false,.bool false,.bool false,.bool false,.bool false,.bool false]]) (.n3 rfl) rfl fun fr=>?_
  refine k_seq (yf [.plain,.read true,.plain,.read true,.read false,.plain,.plain] (by kernel_rfl) (by kernel_rfl) (by kernel_rfl) ?_)
  refine zD (kw rfl zCB (zB rfl)) ?_
  refine zX rfl (kA sh3 rfl (zB rfl)) (zD (kw rfl fld92_2 (zB rfl)) ?_)
  refine zX rfl (kA sh22 rfl (zB rfl)) (zCs rfl (q100) (zCC [a0,a1,a2,a3,a4,a5,a6,a7,a8,a9,a10,a11,a12,a13,a14,a15]) (.lrefl _) ?_)
  refine zD (ye rfl ty85 rfl rfl (by omega) (by omega) cl83 (zB rfl)) ?_
  refine zD (zp rfl rfl sh83 rfl rfl rfl rfl rfl (zB rfl)) ?_
  refine wl ?_
  refine k_seq (yf [.plain,.read true,.read false,.plain,.read true,.read false,.plain,.read true,.plain,.read true,.plain,.plain,.plain] (by kernel_rfl) (by kernel_rfl) (by kernel_rfl) ?_)
  refine zD (kw rfl zCB (zB rfl)) ?_
  refine zX rfl (kA sh3 rfl (zB rfl)) (zCs rfl (q74) (.int _ _) (.lrefl _) ?_)
  refine zD (kw rfl zCr (zB rfl)) ?_
  refine zX rfl (kB sh73 rfl (zB rfl)) ?_
  refine zCs rfl (q66) (zCC [b0,b1,b2,b3,b4,b5,b6,b7,b8,b9,b10,b11,b12,b13,b14,b15]) (.lrefl _) ?_
  refine zD (kw rfl zCB (zB rfl)) ?_
  refine zX rfl (kA sh3 rfl (zB rfl)) (zD (ye rfl ty85 rfl rfl (by omega) (by omega) cl83 (zB rfl)) ?_)
  refine wC [(1,U.box 0 0),(2,U.box 1 0),(3,U.box 2 0),(12,.int .i64 ((1:Int) - (0:Int))),(15,U.agg (zU [b0,b1,b2,b3,b4,b5,b6,b7,b8,b9,b10,b11,b12,b13,b14,b15])),(18,U.box 2 0)] [] ([SB.box [.lst .ro 1 (zE (Ln.slots l)),.int .i64 (Ln.left l),.int .i64 (Ln.right l),.int .i64 (Ln.run l),.int .i64 0,.lst .ro 1 (zE H)],SB.box [.lst .full 0 [],.int .i64 0,.int .i64 0,.int .i64 0,.lst .full 0 []],SB.box [U.bool a0,U.bool a1,U.bool a2,U.bool a3,U.bool a4,U.bool a5,U.bool a6,U.bool a7,U.bool a8,U.bool a9,U.bool a10,U.bool a11,U.bool a12,U.bool a13,U.bool a14,U.bool a15,.bool false,.bool false,.bool false,.bool false,.bool false,.bool false,.bool false,.bool false,.bool false,.bool false,.bool false,.bool false,.bool false,.bool false,.bool false,.bool false]]) (.n6 rfl) rfl rfl fun fr=>?_
  refine zX rfl (kB sh83 rfl (zB rfl)) ?_
  refine zD (zL rfl (q67) (.lrefl _) (zB rfl)) ?_
  refine zD (ye rfl ty85 rfl rfl (by omega) (by omega) cl83 (zB rfl)) ?_
  refine zD (zp rfl rfl sh83 rfl rfl rfl rfl rfl (zB rfl)) ?_
  refine wl ?_
  refine zI [(1,U.box 0 0),(2,U.box 1 0),(3,U.box 2 0)] ([SB.box [.lst .ro 1 (zE (Ln.slots l)),.int .i64 (Ln.left l),.int .i64 (Ln.right l),.int .i64 (Ln.run l),.int .i64 0,.lst .ro 1 (zE H)],SB.box [.lst .full 0 [],.int .i64 0,.int .i64 0,.int .i64 0,.lst .full 0 []],SB.box [U.bool a0,U.bool a1,U.bool a2,U.bool a3,U.bool a4,U.bool a5,U.bool a6,U.bool a7,U.bool a8,U.bool a9,U.bool a10,U.bool a11,U.bool a12,U.bool a13,U.bool a14,U.bool a15,U.bool c0,U.bool c1,U.bool c2,U.bool c3,U.bool c4,U.bool c5,U.bool c6,U.bool c7,U.bool c8,U.bool c9,U.bool c10,U.bool c11,U.bool c12,U.bool c13,U.bool c14,U.bool c15]]) (.n3 rfl) rfl fun fr=>?_
  refine k_seq (yf [.plain,.read true,.read true,.plain,.plain,.plain,.read true,.read true,.quiet,.plain,.plain] (by kernel_rfl) (by kernel_rfl) (by kernel_rfl) ?_)
  refine zD (kw rfl zCr (zB rfl)) ?_
  refine zX rfl (kB sh73 rfl (zB rfl)) ?_
  refine zX rfl (kB sh85 rfl (zB rfl)) ?_
  refine zD (kw rfl zCr (zB rfl)) ?_
  refine zD (kw rfl yX (zB rfl)) ?_
  refine zD (kw rfl zO (zB rfl)) ?_
  refine zX rfl (kA sh22 rfl (zB rfl)) (zX rfl (zi rfl ty22 rfl (List.length_map _) (zB rfl)) ?_)
  refine zDq rfl (q64) (.lrefl _) ?_
  refine zD (zBT rfl ze75 pl75 rfl rfl (zB rfl)) ?_
  refine zD (zp rfl rfl sh75 rfl rfl rfl rfl rfl (zB rfl)) ?_
  refine wl ?_
  refine za ?_
  refine⟨.inr rfl,_,.cons _ _ _ _ (.cellN 2 75 _ _ _ _ rfl rfl sh75 rfl) .nil,?_⟩
  exact .refl _
 ·have q74:=ret74 (orc:=orc) hi (w:=1) (by omega)
  have q64:=ret64 (orc:=orc) hi (woF (strF l) (onF H)) (onF H) hn
  rw[pl_alo1 l H _ rfl]at q64
  unfold spU at q64
  generalize aloL l 1 H=A at*
  generalize b16 (onF H)=S at*
  generalize b16 (woF (strF l) (onF H))=R at*
  generalize b16 (strF l)=T at*
  obtain⟨a0,a1,a2,a3,a4,a5,a6,a7,a8,a9,a10,a11,a12,a13,a14,a15,rfl⟩:=zAm l1
  obtain⟨b0,b1,b2,b3,b4,b5,b6,b7,b8,b9,b10,b11,b12,b13,b14,b15,rfl⟩:=zAm l2
  obtain⟨c0,c1,c2,c3,c4,c5,c6,c7,c8,c9,c10,c11,c12,c13,c14,c15,rfl⟩:=zAm l3
  refine kQ (yb rfl rfl (yL rfl ze75 ?_))
  refine zB ?_
  refine zI [(1,U.box 0 0),(2,U.box 1 0)] ([SB.box [.lst .ro 1 (zE (Ln.slots l)),.int .i64 (Ln.left l),.int .i64 (Ln.right l),.int .i64 (Ln.run l),.int .i64 1,.lst .ro 1 (zE H)],SB.box [.lst .full 0 [],.int .i64 0,.int .i64 0,.int .i64 0,.lst .full 0 []]]) (.n2 rfl) rfl fun fr=>?_
  refine kQ (yL rfl ze85 ?_)
  refine zB ?_
  refine zI [(1,U.box 0 0),(2,U.box 1 0),(3,U.box 2 0)] ([SB.box [.lst .ro 1 (zE (Ln.slots l)),.int .i64 (Ln.left l),.int .i64 (Ln.right l),.int .i64 (Ln.run l),.int .i64 1,.lst .ro 1 (zE H)],SB.box [.lst .full 0 [],.int .i64 0,.int .i64 0,.int .i64 0,.lst .full 0 []],SB.box [.bool false,.bool false,.bool false,.bool false,.bool false,.bool false,.bool false,.bool false,.bool false,.bool false,.bool false,.bool false,.bool false,.bool false,.bool false,.bool false,.bool false,.bool false,.bool false,.bool false,.bool false,.bool false,.bool false,.bool false,.bool false,.bool false,.bool false,.bool false,.bool false,.bool false,.bool false,.bool false]]) (.n3 rfl) rfl fun fr=>?_
  refine k_seq (yf [.plain,.read true,.plain,.read true,.read false,.plain,.plain] (by kernel_rfl) (by kernel_rfl) (by kernel_rfl) ?_)
  refine zD (kw rfl zCB (zB rfl)) ?_
  refine zX rfl (kA sh3 rfl (zB rfl)) (zD (kw rfl fld92_2 (zB rfl)) ?_)
  refine zX rfl (kA sh22 rfl (zB rfl)) (zCs rfl (q100) (zCC [a0,a1,a2,a3,a4,a5,a6,a7,a8,a9,a10,a11,a12,a13,a14,a15]) (.lrefl _) ?_)
  refine zD (ye rfl ty85 rfl rfl (by omega) (by omega) cl83 (zB rfl)) ?_
  refine zD (zp rfl rfl sh83 rfl rfl rfl rfl rfl (zB rfl)) ?_
  refine wl ?_
  refine k_seq (yf [.plain,.read true,.read false,.plain,.read true,.read false,.plain,.read true,.plain,.read true,.plain,.plain,.plain] (by kernel_rfl) (by kernel_rfl) (by kernel_rfl) ?_)
  refine zD (kw rfl zCB (zB rfl)) ?_
  refine zX rfl (kA sh3 rfl (zB rfl)) (zCs rfl (q74) (.int _ _) (.lrefl _) ?_)
  refine zD (kw rfl zCr (zB rfl)) ?_
  refine zX rfl (kB sh73 rfl (zB rfl)) ?_
  refine zCs rfl (q66) (zCC [b0,b1,b2,b3,b4,b5,b6,b7,b8,b9,b10,b11,b12,b13,b14,b15]) (.lrefl _) ?_
  refine zD (kw rfl zCB (zB rfl)) ?_
  refine zX rfl (kA sh3 rfl (zB rfl)) (zD (ye rfl ty85 rfl rfl (by omega) (by omega) cl83 (zB rfl)) ?_)
  refine wC [(1,U.box 0 0),(2,U.box 1 0),(3,U.box 2 0),(12,.int .i64 ((1:Int) - (1:Int))),(15,U.agg (zU [b0,b1,b2,b3,b4,b5,b6,b7,b8,b9,b10,b11,b12,b13,b14,b15])),(18,U.box 2 16)] [] ([SB.box [.lst .ro 1 (zE (Ln.slots l)),.int .i64 (Ln.left l),.int .i64 (Ln.right l),.int .i64 (Ln.run l),.int .i64 1,.lst .ro 1 (zE H)],SB.box [.lst .full 0 [],.int .i64 0,.int .i64 0,.int .i64 0,.lst .full 0 []],SB.box [.bool false,.bool false,.bool false,.bool false,.bool false,.bool false,.bool false,.bool false,.bool false,.bool false,.bool false,.bool false,.bool false,.bool false,.bool false,.bool false,U.bool a0,U.bool a1,U.bool a2,U.bool a3,U.bool a4,U.bool a5,U.bool a6,U.bool a7,U.bool a8,U.bool a9,U.bool a10,U.bool a11,U.bool a12,U.bool a13,U.bool a14,U.bool a15]]) (.n6 rfl) rfl rfl fun fr=>?_
  refine zX rfl (kB sh83 rfl (zB rfl)) ?_
  refine zD (zL rfl (q67) (.lrefl _) (zB rfl)) ?_
  refine zD (ye rfl ty85 rfl rfl (by omega) (by omega) cl83 (zB rfl)) ?_
  refine zD (zp rfl rfl sh83 rfl rfl rfl rfl rfl (zB rfl)) ?_
  refine wl ?_
  refine zI [(1,U.box 0 0),(2,U.box 1 0),(3,U.box 2 0)] ([SB.box [.lst .ro 1 (zE (Ln.slots l)),.int .i64 (Ln.left l),.int .i64 (Ln.right l),.int .i64 (Ln.run l),.int .i64 1,.lst .ro 1 (zE H)],SB.box [.lst .full 0 [],.int .i64 0,.int .i64 0,.int .i64 0,.lst .full 0 []],SB.box [U.bool c0,U.bool c1,U.bool c2,U.bool c3,U.bool c4,U.bool c5,U.bool c6,U.bool c7,U.bool c8,U.bool c9,U.bool c10,U.bool c11,U.bool c12,U.bool c13,U.bool c14,U.bool c15,U.bool a0,U.bool a1,U.bool a2,U.bool a3,U.bool a4,U.bool a5,U.bool a6,U.bool a7,U.bool a8,U.bool a9,U.bool a10,U.bool a11,U.bool a12,U.bool a13,U.bool a14,U.bool a15]]) (.n3 rfl) rfl fun fr=>?_
  refine k_seq (yf [.plain,.read true,.read true,.plain,.plain,.plain,.read true,.read true,.quiet,.plain,.plain] (by kernel_rfl) (by kernel_rfl) (by kernel_rfl) ?_)
  refine zD (kw rfl zCr (zB rfl)) ?_
  refine zX rfl (kB sh73 rfl (zB rfl)) ?_
  refine zX rfl (kB sh85 rfl (zB rfl)) ?_
  refine zD (kw rfl zCr (zB rfl)) ?_
  refine zD (kw rfl yX (zB rfl)) ?_
  refine zD (kw rfl zO (zB rfl)) ?_
  refine zX rfl (kA sh22 rfl (zB rfl)) (zX rfl (zi rfl ty22 rfl (List.length_map _) (zB rfl)) ?_)
  refine zDq rfl (q64) (.lrefl _) ?_
  refine zD (zBT rfl ze75 pl75 rfl rfl (zB rfl)) ?_
  refine zD (zp rfl rfl sh75 rfl rfl rfl rfl rfl (zB rfl)) ?_
  refine wl ?_
  refine za ?_
  refine⟨.inr rfl,_,.cons _ _ _ _ (.cellN 2 75 _ _ _ _ rfl rfl sh75 rfl) .nil,?_⟩
  exact .refl _
end Go.Proofs.YthhbfbmfhldbaaaDoor.locks
