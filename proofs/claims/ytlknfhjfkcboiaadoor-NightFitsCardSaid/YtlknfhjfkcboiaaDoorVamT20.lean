import Derived.Test.YtlknfhjfkcboiaaDoorVamT19
set_option linter.unusedVariables false
set_option linter.unusedSimpArgs false
set_option linter.constructorNameAsVariable false
namespace Go.Proofs.YtlknfhjfkcboiaaDoor.night
open Vam
section
variable {is:FuncId→Bool}{orc:Known}
noncomputable def b3:Code:=(Tryd.f3.body).getD .skip
theorem body3:bodyOf Tryd.prog 3=some (82,b3,[.tmp 4]):=by kernel_rfl
theorem pure3:pureFn Tryd.prog 3=true:=by kernel_rfl
set_option maxHeartbeats 16000000 in
theorem ret3(hi:Off is)(b:Bk)(L:List Int)(r24:RetP Tryd.prog is orc 24 [] (.bool true)):RetP Tryd.prog is orc 3 [b.u,.lst .ro 1 (zE L)] (.bool true):=by
 have q17:=ret17 (orc:=orc) hi b
 have q18:=ret18 (orc:=orc) hi b
 refine zc body3 pure3 (hi 3 (by decide)) rfl rfl (zb (yZ b 4) (zP 6 .ro (fun h=>by cases h) 1 L)) (.inl (.bool _ _)) ?_
 cases hv:we b with
 |false=>
  rw[if_neg (by rw[hv];decide)]at q17 q18
  have q14:=ret14j (orc:=orc) hi hv L
  have q15:=ret15j (orc:=orc) hi hv L
  have q16:=ret16 (orc:=orc) hi [] (by decide)
  have q19:=ret19j (orc:=orc) hi hv L
  have q20:=ret20j (orc:=orc) hi hv L
  have q21:=ret21j (orc:=orc) hi hv
  have q22:=ret22j (orc:=orc) hi hv
  have q23:=ret23 (orc:=orc) hi [] (by decide)
  refine kQ (zq rfl rfl (zB rfl (zC ?_)))
  refine zF [(1,.lst .ro 1 (zE L)),(2,U.box 0 0)] ([SB.box (Bk.cs b)]) (.n2 rfl) rfl fun fr=>?_
  refine kQ (kC rfl sh25 (zA rfl (zG rfl (q14) (.lrefl _) (zA rfl (kw rfl (kw rfl (zB rfl (zB rfl (zC (kQ (kC rfl sh25 (zA rfl (zG rfl (q15) (.lrefl _) (zA rfl (kw rfl ?_)))))))))))))))
  refine kw rfl (zB rfl (zB rfl (zC ?_)))
  refine zF [(1,.lst .ro 1 (zE L)),(2,U.box 0 0),(5,.lst .full 0 []),(6,.int .i64 100),(7,.lst .full 0 []),(8,.int .i64 100)] ([SB.box (Bk.cs b)]) (.n6 rfl) rfl fun fr=>?_
  refine k_seq (k_seq (yY [.plain,.plain,.plain,.plain,.plain,.plain,.plain,.plain,.plain,.plain,.read true,.read false,.read true,.plain,.plain,.plain] (by kernel_rfl) (by kernel_rfl) (by kernel_rfl) ?_))
  refine zD (zA rfl (zC rfl)) (zD (zA rfl (zC rfl)) (zD (zG rfl (q16) (.lcons _ _ _ _ (.nil _ _ _) (.lcons _ _ _ _ (.nil _ _ _) (.lrefl _))) (zC rfl)) ?_))
  refine zD (zw rfl rfl (zC rfl)) ?_
  refine zD (zA rfl (zC rfl)) (kl rfl (zD (zA rfl (zC rfl)) (kl rfl (zD (zA rfl (zC rfl)) (kl rfl (zD (ks rfl (zC rfl)) ?_))))))
  refine zD (kE rfl (zC rfl)) ?_
  refine yR [(1,.lst .ro 1 (zE L)),(2,U.box 0 0),(33,U.bool (decide ((100:Int)≠(100:Int))))] [] ([SB.box (Bk.cs b)]) (.n3 rfl) rfl rfl fun fr=>?_
  refine zD (zA rfl (zC rfl)) (kl rfl (zT rfl (kC rfl sh25 (zC rfl)) ?_))
  refine kl rfl (zAM rfl (q17) (.int _ _) (.lrefl _) ?_)
  refine kl rfl (zT rfl (kC rfl sh25 (zC rfl)) ?_)
  refine kl rfl (zD (zG rfl (q18) (.lrefl _) (zC rfl)) ?_)
  refine kl rfl (zD (ks rfl (zC rfl)) ?_)
  refine zD (kE rfl (zC rfl)) ?_
  refine wS ?_
  refine zF [(1,.lst .ro 1 (zE L)),(2,U.box 0 0),(40,U.bool (decide ((100:Int)≠(100:Int))))] ([SB.box (Bk.cs b)]) (.n3 rfl) rfl fun fr=>?_
  refine k_cF rfl rfl ?_
  refine zL (kQ (kC rfl sh25 (zA rfl (zG rfl (q19) (.lrefl _) (zA rfl (kw rfl (kw rfl (zB rfl (zB rfl (zC (kQ (kC rfl sh25 (zA rfl (zG rfl (q20) (.lrefl _) (zA rfl ?_)))))))))))))))
  refine kw rfl (kw rfl (zB rfl (zB rfl (zC ?_))))
  refine zF [(2,U.box 0 0),(6,.int .i64 100),(8,.int .i64 100),(9,.bool false),(10,.bool false)] ([SB.box (Bk.cs b)]) (.n5 rfl) rfl fun fr=>?_
  refine k_seq (kQ (zA rfl (zA rfl (o_neqB rfl ty4 rfl rfl ?_))))
  refine zA rfl (kf rfl (zA rfl (kf rfl (zA rfl (kf rfl (ks rfl (kE rfl ?_)))))))
  refine zC (k_cF rfl rfl ?_)
  refine zL (kQ (kC rfl sh25 (zG rfl (q21) (.lrefl _) (zA rfl (kw rfl (kw rfl (zB rfl (zB rfl (zC ?_)))))))))
  refine zF [(2,U.box 0 0),(6,.int .i64 100),(11,.lst .full 0 [])] ([SB.box (Bk.cs b)]) (.n3 rfl) rfl fun fr=>?_
  refine kQ (kC rfl sh25 (zG rfl (q22) (.lrefl _) (zA rfl (kw rfl (kw rfl (zB rfl (zB rfl (zC (kQ (zA rfl (zA rfl (zG rfl (q23) (.lcons _ _ _ _ (.nil _ _ _) (.lcons _ _ _ _ (.nil _ _ _) (.lrefl _))) ?_))))))))))))
  refine zA rfl (kf rfl (zA rfl (kf rfl (zA rfl (kf rfl (ku rfl (kF rfl ?_)))))))
  refine zA rfl (kf rfl (zG rfl (r24) (.lrefl _) (kF rfl ?_)))
  refine zB rfl (zC (zR ?_))
  refine⟨.inr rfl,_,.cons _ _ _ _ (.tmp 4) .nil,?_⟩
  exact .refl _
 |true=>
  rw[if_pos hv]at q17 q18
  have h:=(zCU b).1 hv
  have q14:=ret14g (orc:=orc) hi h L
  have q15:=ret15 (orc:=orc) hi h L
  have q19:=ret19 (orc:=orc) hi h L
  have q20:=ret20 (orc:=orc) hi h L
  have q21:=ret21 (orc:=orc) hi h
  have q22:=ret22 (orc:=orc) hi h
  have q16:=ret16 (orc:=orc) hi (spL b [] L) (show(3:Nat)≤4096 by omega)
  have q16n:=ret16 (orc:=orc) hi [] (by decide)
  have q23:=fun m hm=>ret23 (orc:=orc) hi m hm
  have hlo:=fun m=>lgt_ok (b:=b) (d:=[]) (m:=m)
  have hsn:=h.sn
  unfold endR at q14 q15
  generalize spL b [] L=S at*
  generalize (chF b (-1) L&&fitB b [] L)=f at*
  generalize lgt b []=o at*
  have kff:decide (f≠f)=false:=by simp
  cases hc:chF b (-1) L with
  |false=>
   rw[hc,if_neg (by decide)]at q14 q15 q19 q20
   refine kQ (zq rfl rfl (zB rfl (zC ?_)))
   refine zF [(1,.lst .ro 1 (zE L)),(2,U.box 0 0)] ([SB.box (Bk.cs b)]) (.n2 rfl) rfl fun fr=>?_
   refine kQ (kC rfl sh25 (zA rfl (zG rfl (q14) (.lrefl _) (zA rfl (kw rfl (kw rfl (zB rfl (zB rfl (zC (kQ (kC rfl sh25 (zA rfl (zG rfl (q15) (.lrefl _) (zA rfl (kw rfl ?_)))))))))))))))
   refine kw rfl (zB rfl (zB rfl (zC ?_)))
   refine zF [(1,.lst .ro 1 (zE L)),(2,U.box 0 0),(5,.lst .full 0 []),(6,.int .i64 101),(7,.lst .full 0 []),(8,.int .i64 101)] ([SB.box (Bk.cs b)]) (.n6 rfl) rfl fun fr=>?_
   refine k_seq (k_seq (yY [.plain,.plain,.plain,.plain,.plain,.plain,.plain,.plain,.plain,.plain,.read true,.read false,.read true,.plain,.plain,.plain] (by kernel_rfl) (by kernel_rfl) (by kernel_rfl) ?_))
   refine zD (zA rfl (zC rfl)) (zD (zA rfl (zC rfl)) (zD (zG rfl (q16n) (.lcons _ _ _ _ (.nil _ _ _) (.lcons _ _ _ _ (.nil _ _ _) (.lrefl _))) (zC rfl)) ?_))
   refine zD (zw rfl rfl (zC rfl)) ?_
   refine zD (zA rfl (zC rfl)) (kl rfl (zD (zA rfl (zC rfl)) (kl rfl (zD (zA rfl (zC rfl)) (kl rfl (zD (ks rfl (zC rfl)) ?_))))))
   refine zD (kE rfl (zC rfl)) ?_
   refine yR [(1,.lst .ro 1 (zE L)),(2,U.box 0 0),(33,U.bool (decide ((101:Int)≠(101:Int))))] [] ([SB.box (Bk.cs b)]) (.n3 rfl) rfl rfl fun fr=>?_
   refine zD (zA rfl (zC rfl)) (kl rfl (zT rfl (kC rfl sh25 (zC rfl)) ?_))
   refine kl rfl (zAM rfl (q17) (.int _ _) (.lrefl _) ?_)
   refine kl rfl (zT rfl (kC rfl sh25 (zC rfl)) ?_)
   refine kl rfl (zD (zG rfl (q18) (.lrefl _) (zC rfl)) ?_)
   refine kl rfl (zD (ks rfl (zC rfl)) ?_)
   refine zD (kE rfl (zC rfl)) ?_
   refine wS ?_
   refine zF [(1,.lst .ro 1 (zE L)),(2,U.box 0 0),(40,U.bool (decide ((0:Int)≠(0:Int))))] ([SB.box (Bk.cs b)]) (.n3 rfl) rfl fun fr=>?_
   refine k_cF rfl rfl ?_
   refine zL (kQ (kC rfl sh25 (zA rfl (zG rfl (q19) (.lrefl _) (zA rfl (kw rfl (kw rfl (zB rfl (zB rfl (zC (kQ (kC rfl sh25 (zA rfl (zG rfl (q20) (.lrefl _) (zA rfl ?_)))))))))))))))
   refine kw rfl (kw rfl (zB rfl (zB rfl (zC ?_))))
   refine zF [(2,U.box 0 0),(6,.int .i64 101),(8,.int .i64 101),(9,U.bool f),(10,U.bool f)] ([SB.box (Bk.cs b)]) (.n5 rfl) rfl fun fr=>?_
   refine k_seq (kQ (zA rfl (zA rfl (o_neqB rfl ty4 rfl rfl ?_))))
   refine zA rfl (kh rfl (by assumption) (zA rfl (kh rfl (by assumption) (zA rfl (kh rfl (by assumption) (ks rfl (zV rfl rfl (by assumption) ?_)))))))
   refine zC (k_cF rfl rfl ?_)
   refine zL ?_
   cases o with
   |none=>
    have q23:=q23 [] (by decide)
    refine kQ (kC rfl sh25 (zG rfl (q21) (.lrefl _) (zA rfl (kw rfl (kw rfl (zB rfl (zB rfl (zC (kQ (kC rfl sh25 (zG rfl (q22) (.lrefl _) (zA rfl (kw rfl (kw rfl (zB rfl ?_)))))))))))))))
    refine zB rfl (zC ?_)
    refine zF [(6,.int .i64 (if Option.isSome Option.none=Bool.true then(0:Int)else(4:Int))),(8,.int .i64 (if Option.isSome Option.none=Bool.true then(0:Int)else(4:Int))),(11,.lst .full 0 []),(12,.lst .full 0 [])] ([SB.box (Bk.cs b)]) (.n4 rfl) rfl fun fr=>?_
    refine kQ (zA rfl (zA rfl (zG rfl (q23) (.lcons _ _ _ _ (.nil _ _ _) (.lcons _ _ _ _ (.nil _ _ _) (.lrefl _))) ?_)))
    refine zA rfl (kf rfl (zA rfl (kf rfl (zA rfl (kf rfl (ku rfl (kF rfl ?_)))))))
    refine zA rfl (kf rfl (zG rfl (r24) (.lrefl _) (kF rfl ?_)))
    refine zB rfl (zC (zR ?_))
    refine⟨.inr rfl,_,.cons _ _ _ _ (.tmp 4) .nil,?_⟩
    exact .refl _
   |some m=>
    have hm:=(hlo m rfl).2
    have q23:=q23 m (by omega)
    refine kQ (kC rfl sh25 (zG rfl (q21) (.lrefl _) (zA rfl (kw rfl (kw rfl (zB rfl (zB rfl (zC (kQ (kC rfl sh25 (zG rfl (q22) (.lrefl _) (zA rfl (kw rfl (kw rfl (zB rfl ?_)))))))))))))))
    refine zB rfl (zC ?_)
    refine zF [(6,.int .i64 (if Option.isSome (Option.some m)=Bool.true then(0:Int)else(4:Int))),(8,.int .i64 (if Option.isSome (Option.some m)=Bool.true then(0:Int)else(4:Int))),(11,.lst .ro 1 (zE m)),(12,.lst .ro 1 (zE m))] ([SB.box (Bk.cs b)]) (.n4 rfl) rfl fun fr=>?_
    refine kQ (zA rfl (zA rfl (zG rfl (q23) (.lrefl _) (zA rfl (kf rfl (zA rfl (kf rfl (zA rfl (kf rfl (ku rfl (kF rfl ?_)))))))))))
    refine zA rfl (kh rfl (kG (by omega)) ?_)
    refine zG rfl (r24) (.lrefl _) (kF rfl ?_)
    refine zB rfl (zC (zR ?_))
    refine⟨.inr rfl,_,.cons _ _ _ _ (.tmp 4) .nil,?_⟩
    exact .refl _
  |true=>
   rw[hc,if_pos rfl]at q14 q15 q19 q20
   refine kQ (zq rfl rfl (zB rfl (zC ?_)))
   refine zF [(1,.lst .ro 1 (zE L)),(2,U.box 0 0)] ([SB.box (Bk.cs b)]) (.n2 rfl) rfl fun fr=>?_
   refine kQ (kC rfl sh25 (zA rfl (zG rfl (q14) (.lrefl _) (zA rfl (kw rfl (kw rfl (zB rfl (zB rfl (zC (kQ (kC rfl sh25 (zA rfl (zG rfl (q15) (.lrefl _) (zA rfl (kw rfl ?_)))))))))))))))
   refine kw rfl (zB rfl (zB rfl (zC ?_)))
   refine zF [(1,.lst .ro 1 (zE L)),(2,U.box 0 0),(5,.lst .ro 2 (zDQ S)),(6,.int .i64 0),(7,.lst .ro 2 (zDQ S)),(8,.int .i64 0)] ([SB.box (Bk.cs b)]) (.n6 rfl) rfl fun fr=>?_
   refine k_seq (k_seq (yY [.plain,.plain,.plain,.plain,.plain,.plain,.plain,.plain,.plain,.plain,.read true,.read false,.read true,.plain,.plain,.plain] (by kernel_rfl) (by kernel_rfl) (by kernel_rfl) ?_))
   refine zD (zA rfl (zC rfl)) (zD (zA rfl (zC rfl)) (zD (zG rfl (q16) (.lrefl _) (zC rfl)) ?_))
   refine zD (zw rfl rfl (zC rfl)) ?_
   refine zD (zA rfl (zC rfl)) (kl rfl (zD (zA rfl (zC rfl)) (kl rfl (zD (zA rfl (zC rfl)) (kl rfl (zD (ks rfl (zC rfl)) ?_))))))
   refine zD (kE rfl (zC rfl)) ?_
   refine yR [(1,.lst .ro 1 (zE L)),(2,U.box 0 0),(33,U.bool (decide ((0:Int)≠(0:Int))))] [] ([SB.box (Bk.cs b)]) (.n3 rfl) rfl rfl fun fr=>?_
   refine zD (zA rfl (zC rfl)) (kl rfl (zT rfl (kC rfl sh25 (zC rfl)) ?_))
   refine kl rfl (zAM rfl (q17) (.int _ _) (.lrefl _) ?_)
   refine kl rfl (zT rfl (kC rfl sh25 (zC rfl)) ?_)
   refine kl rfl (zD (zG rfl (q18) (.lrefl _) (zC rfl)) ?_)
   refine kl rfl (zD (ks rfl (zC rfl)) ?_)
   refine zD (kE rfl (zC rfl)) ?_
   refine wS ?_
   refine zF [(1,.lst .ro 1 (zE L)),(2,U.box 0 0),(40,U.bool (decide ((0:Int)≠(0:Int))))] ([SB.box (Bk.cs b)]) (.n3 rfl) rfl fun fr=>?_
   refine k_cF rfl rfl ?_
   refine zL (kQ (kC rfl sh25 (zA rfl (zG rfl (q19) (.lrefl _) (zA rfl (kw rfl (kw rfl (zB rfl (zB rfl (zC (kQ (kC rfl sh25 (zA rfl (zG rfl (q20) (.lrefl _) (zA rfl ?_)))))))))))))))
   refine kw rfl (kw rfl (zB rfl (zB rfl (zC ?_))))
   refine zF [(2,U.box 0 0),(6,.int .i64 0),(8,.int .i64 0),(9,U.bool f),(10,U.bool f)] ([SB.box (Bk.cs b)]) (.n5 rfl) rfl fun fr=>?_
   refine k_seq (kQ (zA rfl (zA rfl (o_neqB rfl ty4 rfl rfl ?_))))
   refine zA rfl (kh rfl (by assumption) (zA rfl (kh rfl (by assumption) (zA rfl (kh rfl (by assumption) (ks rfl (zV rfl rfl (by assumption) ?_)))))))
   refine zC (k_cF rfl rfl ?_)
   refine zL ?_
   cases o with
   |none=>
    have q23:=q23 [] (by decide)
    refine kQ (kC rfl sh25 (zG rfl (q21) (.lrefl _) (zA rfl (kw rfl (kw rfl (zB rfl (zB rfl (zC (kQ (kC rfl sh25 (zG rfl (q22) (.lrefl _) (zA rfl (kw rfl (kw rfl (zB rfl ?_)))))))))))))))
    refine zB rfl (zC ?_)
    refine zF [(6,.int .i64 (if Option.isSome Option.none=Bool.true then(0:Int)else(4:Int))),(8,.int .i64 (if Option.isSome Option.none=Bool.true then(0:Int)else(4:Int))),(11,.lst .full 0 []),(12,.lst .full 0 [])] ([SB.box (Bk.cs b)]) (.n4 rfl) rfl fun fr=>?_
    refine kQ (zA rfl (zA rfl (zG rfl (q23) (.lcons _ _ _ _ (.nil _ _ _) (.lcons _ _ _ _ (.nil _ _ _) (.lrefl _))) ?_)))
    refine zA rfl (kf rfl (zA rfl (kf rfl (zA rfl (kf rfl (ku rfl (kF rfl ?_)))))))
    refine zA rfl (kf rfl (zG rfl (r24) (.lrefl _) (kF rfl ?_)))
    refine zB rfl (zC (zR ?_))
    refine⟨.inr rfl,_,.cons _ _ _ _ (.tmp 4) .nil,?_⟩
    exact .refl _
   |some m=>
    have hm:=(hlo m rfl).2
    have q23:=q23 m (by omega)
    refine kQ (kC rfl sh25 (zG rfl (q21) (.lrefl _) (zA rfl (kw rfl (kw rfl (zB rfl (zB rfl (zC (kQ (kC rfl sh25 (zG rfl (q22) (.lrefl _) (zA rfl (kw rfl (kw rfl (zB rfl ?_)))))))))))))))
    refine zB rfl (zC ?_)
    refine zF [(6,.int .i64 (if Option.isSome (Option.some m)=Bool.true then(0:Int)else(4:Int))),(8,.int .i64 (if Option.isSome (Option.some m)=Bool.true then(0:Int)else(4:Int))),(11,.lst .ro 1 (zE m)),(12,.lst .ro 1 (zE m))] ([SB.box (Bk.cs b)]) (.n4 rfl) rfl fun fr=>?_
    refine kQ (zA rfl (zA rfl (zG rfl (q23) (.lrefl _) (zA rfl (kf rfl (zA rfl (kf rfl (zA rfl (kf rfl (ku rfl (kF rfl ?_)))))))))))
    refine zA rfl (kh rfl (kG (by omega)) ?_)
    refine zG rfl (r24) (.lrefl _) (kF rfl ?_)
    refine zB rfl (zC (zR ?_))
    refine⟨.inr rfl,_,.cons _ _ _ _ (.tmp 4) .nil,?_⟩
    exact .refl _
end
section
variable {is:FuncId→Bool}{orc:Known}
theorem zGT{P:Program}{t:TypeId}(n:Nat)(h:(match P.underlying t with|some (.struct fs)=>Nat.beq fs.size n|_=>false)=true):∃fs,P.underlying t=some (.struct fs):=by
 cases hu:P.underlying t with
 |none=>rw[hu]at h;cases h
 |some ty=>rw[hu]at h;cases ty<;>first|exact⟨_,rfl⟩|cases h
theorem u3:Tryd.prog.underlying 3=some (.int .i64):=by kernel_rfl
theorem u4:Tryd.prog.underlying 4=some .bool:=by kernel_rfl
theorem u22:Tryd.prog.underlying 22=some (.slice 3):=by kernel_rfl
theorem u23:Tryd.prog.underlying 23=some (.slice 50):=by kernel_rfl
def fts(P:Program)(t:TypeId):List TypeId:=match P.underlying t with|some (.struct fs)=>fs.toList.map (·.type)|_=>[]
theorem f25:fts Tryd.prog 25=[3,22,22,23,3,22,3,3,3,22]:=by kernel_rfl
theorem f50:fts Tryd.prog 50=[3,3,48,4]:=by kernel_rfl
theorem f48:fts Tryd.prog 48=[3,3]:=by kernel_rfl
theorem clq50:Program.cellsOf Tryd.prog 50=5:=by kernel_rfl
theorem clq3:Program.cellsOf Tryd.prog 3=1:=by kernel_rfl
theorem zBZ{cs:List U}(h:Shp Tryd.prog 3 cs):∃n:Int,cs=[.int .i64 n]:=by
 cases h with
 |int _ k n hu _=>rw[u3]at hu;cases hu;exact⟨n,rfl⟩
 |bool _ _ hu=>rw[u3]at hu;cases hu
 |str _ _ hu=>rw[u3]at hu;cases hu
 |slice _ _ _ hu=>rw[u3]at hu;cases hu
 |struct _ _ _ hu=>rw[u3]at hu;cases hu
 |array _ _ _ _ hu=>rw[u3]at hu;cases hu
theorem shp_bool{cs:List U}(h:Shp Tryd.prog 4 cs):∃n:Bool,cs=[.bool n]:=by
 cases h with
 |int _ k n hu _=>rw[u4]at hu;cases hu
 |bool _ n hu=>exact⟨n,rfl⟩
 |str _ _ hu=>rw[u4]at hu;cases hu
 |slice _ _ _ hu=>rw[u4]at hu;cases hu
 |struct _ _ _ hu=>rw[u4]at hu;cases hu
 |array _ _ _ _ hu=>rw[u4]at hu;cases hu
theorem zED{P:Program}{t:TypeId}{cs:List U}(h:Shp P t cs)(hne:fts P t≠[]):∃fs:List Field,fs.map (·.type)=fts P t∧ShpF P fs cs:=by
 have no:∀{ty},P.underlying t=some ty→(∀fs,ty≠.struct fs)→False:=fun hu hn=>hne (by unfold fts;rw[hu];split<;>simp_all)
 cases h with
 |struct _ fs _ hu hf=>exact⟨fs.toList,by unfold fts;rw[hu],hf⟩
 |int _ k n hu _=>exact(no hu (by intro fs h;cases h)).elim
 |bool _ _ hu=>exact(no hu (by intro fs h;cases h)).elim
 |str _ _ hu=>exact(no hu (by intro fs h;cases h)).elim
 |slice _ _ _ hu=>exact(no hu (by intro fs h;cases h)).elim
 |array _ _ _ _ hu=>exact(no hu (by intro fs h;cases h)).elim
theorem yd{P:Program}{fs:List Field}{t:TypeId}{ts:List TypeId}{cs:List U}(h:ShpF P fs cs)(e:fs.map (·.type)=t::ts):∃gs xs ys,cs=xs++ys∧Shp P t xs∧ShpF P gs ys∧gs.map (·.type)=ts:=by
 cases h with
 |nil=>cases e
 |cons f fs xs ys h1 h2=>
  simp only[List.map_cons,List.cons.injEq]at e
  obtain⟨rfl,rfl⟩:=e
  exact⟨fs,xs,ys,rfl,h1,h2,rfl⟩
theorem shpF_nil{P:Program}{fs:List Field}{cs:List U}(h:ShpF P fs cs)(e:fs.map (·.type)=[]):cs=[]:=by
 cases h with
 |nil=>rfl
 |cons=>cases e
theorem shp_span{cs:List U}(h:Shp Tryd.prog 48 cs):∃a b:Int,cs=[.int .i64 a,.int .i64 b]:=by
 obtain⟨fs,e,hf⟩:=zED h (by rw[f48];simp)
 rw[f48]at e
 obtain⟨g1,a1,b1,rfl,k1,r1,e1⟩:=yd hf e
 obtain⟨g2,a2,b2,rfl,k2,r2,e2⟩:=yd r1 e1
 obtain rfl:=shpF_nil r2 e2
 obtain⟨x,rfl⟩:=zBZ k1
 obtain⟨y,rfl⟩:=zBZ k2
 exact⟨x,y,rfl⟩
theorem shpL_map{P:Program}{e:TypeId}{α:Type}{f:α→List U}{css:List (List U)}(h:ShpL P e css)(k:∀cs,Shp P e cs→∃q,cs=f q):∃l:List α,css=l.map f:=by
 induction css with
 |nil=>exact⟨[],rfl⟩
 |cons cs css ih=>
  cases h with
  |cons _ _ _ h1 h2=>
   obtain⟨q,rfl⟩:=k _ h1
   obtain⟨l,rfl⟩:=ih h2
   exact⟨q::l,rfl⟩
theorem shp_slice{P:Program}{t e:TypeId}{cs:List U}(hu:P.underlying t=some (.slice e))(h:Shp P t cs):∃css,ShpL P e css∧cs=[.lst .ro (P.cellsOf e) (css.map (eU P e))]:=by
 cases h with
 |slice _ e' css hu' hl=>rw[hu]at hu';cases hu';exact⟨css,hl,rfl⟩
 |int _ k n hu' _=>rw[hu]at hu';cases hu'
 |bool _ _ hu'=>rw[hu]at hu';cases hu'
 |str _ _ hu'=>rw[hu]at hu';cases hu'
 |struct _ _ _ hu'=>rw[hu]at hu';cases hu'
 |array _ _ _ _ hu'=>rw[hu]at hu';cases hu'
theorem eu50:∀cs,eU Tryd.prog 50 cs=.agg cs:=by
 obtain⟨fs,h⟩:=zGT (P:=Tryd.prog) (t:=50) 4 (by kernel_rfl)
 intro cs;unfold eU;rw[h]
theorem eu3:∀cs,eU Tryd.prog 3 cs=cs.headD .junk:=by
 intro cs;unfold eU;rw[u3]
theorem map_ints{F:List U→U}(he:∀cs,F cs=cs.headD .junk)(l:List Int):(l.map fun n:Int=>[U.int .i64 n]).map F=zE l:=by
 rw[List.map_map]
 exact List.map_congr_left fun q _=>he _
theorem zDf{cs:List U}(h:Shp Tryd.prog 22 cs):∃l:List Int,cs=[.lst .ro 1 (zE l)]:=by
 obtain⟨css,hl,rfl⟩:=shp_slice u22 h
 obtain⟨l,rfl⟩:=shpL_map (f:=fun n:Int=>[.int .i64 n]) hl fun cs hcs=>zBZ hcs
 refine⟨l,?_⟩
 rw[clq3,map_ints eu3]
theorem shp_scene{cs:List U}(h:Shp Tryd.prog 50 cs):∃q:Sc,cs=q.cs:=by
 obtain⟨fs,e,hf⟩:=zED h (by rw[f50];simp)
 rw[f50]at e
 obtain⟨g1,a1,b1,rfl,k1,r1,e1⟩:=yd hf e
 obtain⟨g2,a2,b2,rfl,k2,r2,e2⟩:=yd r1 e1
 obtain⟨g3,a3,b3,rfl,k3,r3,e3⟩:=yd r2 e2
 obtain⟨g4,a4,b4,rfl,k4,r4,e4⟩:=yd r3 e3
 obtain rfl:=shpF_nil r4 e4
 obtain⟨x,rfl⟩:=zBZ k1
 obtain⟨y,rfl⟩:=zBZ k2
 obtain⟨lo,up,rfl⟩:=shp_span k3
 obtain⟨m,rfl⟩:=shp_bool k4
 exact⟨⟨x,y,lo,up,m⟩,rfl⟩
theorem map_scs{F:List U→U}(he:∀cs,F cs=.agg cs)(l:List Sc):(l.map fun q:Sc=>q.cs).map F=scsU l:=by
 rw[List.map_map]
 exact List.map_congr_left fun q _=>he _
theorem shp_scenes{cs:List U}(h:Shp Tryd.prog 23 cs):∃l:List Sc,cs=[.lst .ro 5 (scsU l)]:=by
 obtain⟨css,hl,rfl⟩:=shp_slice u23 h
 obtain⟨l,rfl⟩:=shpL_map (f:=fun q:Sc=>q.cs) hl fun cs hcs=>shp_scene hcs
 refine⟨l,?_⟩
 rw[clq50,map_scs eu50]
theorem shp_bk{cs:List U}(h:Shp Tryd.prog 25 cs):∃b:Bk,cs=b.cs:=by
 obtain⟨fs,e,hf⟩:=zED h (by rw[f25];simp)
 rw[f25]at e
 obtain⟨g1,a1,b1,rfl,k1,r1,e1⟩:=yd hf e
 obtain⟨g2,a2,b2,rfl,k2,r2,e2⟩:=yd r1 e1
 obtain⟨g3,a3,b3,rfl,k3,r3,e3⟩:=yd r2 e2
 obtain⟨g4,a4,b4,rfl,k4,r4,e4⟩:=yd r3 e3
 obtain⟨g5,a5,b5,rfl,k5,r5,e5⟩:=yd r4 e4
 obtain⟨g6,a6,b6,rfl,k6,r6,e6⟩:=yd r5 e5
 obtain⟨g7,a7,b7,rfl,k7,r7,e7⟩:=yd r6 e6
 obtain⟨g8,a8,b8,rfl,k8,r8,e8⟩:=yd r7 e7
 obtain⟨g9,a9,b9,rfl,k9,r9,e9⟩:=yd r8 e8
 obtain⟨g10,a10,b10,rfl,k10,r10,e10⟩:=yd r9 e9
 obtain rfl:=shpF_nil r10 e10
 obtain⟨bg,rfl⟩:=zBZ k1
 obtain⟨opens,rfl⟩:=zDf k2
 obtain⟨ends,rfl⟩:=zDf k3
 obtain⟨scenes,rfl⟩:=shp_scenes k4
 obtain⟨fee,rfl⟩:=zBZ k5
 obtain⟨loads,rfl⟩:=zDf k6
 obtain⟨cart,rfl⟩:=zBZ k7
 obtain⟨cost,rfl⟩:=zBZ k8
 obtain⟨feast,rfl⟩:=zBZ k9
 obtain⟨shares,rfl⟩:=zDf k10
 exact⟨⟨bg,opens,ends,scenes,fee,loads,cart,cost,feast,shares⟩,rfl⟩
theorem und25:∃fs,Tryd.prog.underlying 25=some (.struct fs):=zGT (P:=Tryd.prog) (t:=25) 10 (by kernel_rfl)
theorem arg_bk{u:U}(h:∃cs,u=.agg cs∧Shp Tryd.prog 25 cs):∃b:Bk,u=b.u:=by
 obtain⟨cs,rfl,h⟩:=h
 obtain⟨b,rfl⟩:=shp_bk h
 exact⟨b,rfl⟩
theorem arg_ints{u:U}(h:Shp Tryd.prog 22 [u]):∃l:List Int,u=.lst .ro 1 (zE l):=by
 obtain⟨l,e⟩:=zDf h
 cases e
 exact⟨l,rfl⟩
end
section
variable {is:FuncId→Bool}{orc:Known}
theorem ret3_all(hi:Off is)(r24:RetP Tryd.prog is orc 24 [] (.bool true)):∀us,ShpAs Tryd.prog [25,22] us→RetP Tryd.prog is orc 3 us (.bool true):=by
 intro us h
 cases h with
 |cons _ _ u us h1 h=>cases h with
 |cons _ _ v us h2 h=>
 cases h
 obtain⟨fs,hu⟩:=und25
 unfold ShpA at h1 h2
 rw[hu]at h1
 rw[u22]at h2
 obtain⟨b,rfl⟩:=arg_bk h1
 obtain⟨l,rfl⟩:=arg_ints h2
 exact ret3 hi b l r24
end
end Go.Proofs.YtlknfhjfkcboiaaDoor.night
