import Derived.Test.YthhbfbmfhldbaaaDoorVamT16
set_option linter.unusedVariables false
set_option linter.unusedSimpArgs false
set_option linter.constructorNameAsVariable false
namespace Go.Proofs.YthhbfbmfhldbaaaDoor.locks
open Vam
section
variable {is:FuncId→Bool}{orc:Known}{l:Ln}
noncomputable def b39:Code:=(Tryd.f39.body).getD .skip
theorem body39:bodyOf Tryd.prog 39=some (21,b39,[.tmp 4,.tmp 5]):=by kernel_rfl
theorem pure39:pureFn Tryd.prog 39=true:=by kernel_rfl
noncomputable def toldE(l:Ln)(p:List Int):Int:=if wL l=true then if divB l p=true then 0 else 71 else 70
noncomputable def toldN(l:Ln)(p:List Int):Int:=if toldE l p=0 then tdO l p (preL 18)else 0
set_option maxHeartbeats 16000000 in
theorem ret39(hi:Off is)(l:Ln)(p:List Int):RetP Tryd.prog is orc 39 [l.u,.lst .ro 1 (zE p)] (.tup [.int .i64 (toldN l p),.int .i64 (toldE l p)]):=by
 refine yH body39 pure39 (hi 39 (by decide)) rfl rfl (wE (wa l 5) (yK 6 .ro (fun h=>by cases h) 1 p)) (.inr ⟨_,rfl,wE (.int _ _ _) (.int _ _ _)⟩) ?_
 have q57:=ret57 (orc:=orc) hi l p
 have q56:=ret56 (orc:=orc) hi l [⟨58,[zCh l p],divB l p⟩] (fun q hq u hu=>by
  rcases List.mem_singleton.1 hq with rfl
  exact(wk (zBb l p 5) u hu).nb) (fun hv i q hq _=>by
  match i,hq with
  |0,hq=>cases hq;exact ret58 hi (zBG.1 hv) p) (by show 1≤10;omega)
 have q56:RetP Tryd.prog is orc 56 [l.u,.lst .ro 1 [.fn 58 [zCh l p] []]] (.int .i64 (askI l [⟨58,[zCh l p],divB l p⟩])):=q56
 have hask:askI l [⟨58,[zCh l p],divB l p⟩]=toldE l p:=by
  unfold askI toldE
  show(if wL l=true then if(divB l p&&true)=true then(0:Int)else 71 else 70)=_
  rw[Bool.and_true]
 rw[hask]at q56
 have hN:toldE l p≠0→toldN l p=0:=fun h=>by unfold toldN;rw[if_neg h]
 have hN0:toldE l p=0→toldN l p=tdO l p (preL 18):=fun h=>by unfold toldN;rw[if_pos h]
 have hEd:toldE l p=if wL l=true then if divB l p=true then 0 else 71 else 70:=rfl
 cases hv:wL l with
 |false=>
  rw[hv,if_neg (by decide)]at hEd
  rw[hN (by rw[hEd];decide),hEd]
  rw[hEd]at q56
  refine kQ (yB rfl rfl (zC rfl (zC rfl (zB ?_))))
  refine zH [(1,.lst .ro 1 (zE p)),(2,U.box 0 0)] ([SB.box [.lst .ro 1 (zE (Ln.slots l)),.int .i64 (Ln.left l),.int .i64 (Ln.right l),.int .i64 (Ln.run l)]]) (.n2 rfl) rfl fun fr=>?_
  refine kQ (kB sh24 rfl (zA rfl (zN rfl (q57) (.lrefl _) (zo rfl ze75 ?_))))
  refine zt rfl rfl sh75 rfl rfl rfl rfl rfl ?_
  refine zB ?_
  refine zH [(2,U.box 0 0),(6,U.box 1 0)] ([SB.box [.lst .ro 1 (zE (Ln.slots l)),.int .i64 (Ln.left l),.int .i64 (Ln.right l),.int .i64 (Ln.run l)],SB.box [.lst .ro 1 (zE (Ln.slots l)),.int .i64 (Ln.left l),.int .i64 (Ln.right l),.int .i64 (Ln.run l),.lst .ro 1 (zE p)]]) (.n2 rfl) rfl fun fr=>?_
  refine k_seq (kQ (kB sh24 rfl (kB sh75 rfl ?_)))
  refine zCw rfl ?_
  refine wv (es:=[U.fn 58 [U.agg [U.lst Kd.ro 1 (zE (Ln.slots l)),.int .i64 (Ln.left l),.int .i64 (Ln.right l),.int .i64 (Ln.run l),U.lst Kd.ro 1 (zE p)]] []]) rfl zGq ze34 cl34 rfl rfl rfl rfl rfl rfl rfl rfl ?_
  refine zN rfl (q56) (.lcons _ _ _ _ (.refl _) (.lcons _ _ _ _ (.ro _ _ _) (.lrefl _))) ?_
  refine zC rfl (zB (kQ (zA rfl (kr rfl (zB (k_cT rfl rfl ?_))))))
  refine kQ (zA rfl (zC rfl (zC rfl (zB (zY ?_)))))
  refine⟨.inr rfl,_,.cons _ _ _ _ (.tmp 4) (.cons _ _ _ _ (.tmp 5) .nil),?_⟩
  exact .refl _
 |true=>
  have h:=zBG.1 hv
  rw[hv,if_pos rfl]at hEd
  cases hd:divB l p with
  |false=>
   rw[hd,if_neg (by decide)]at hEd
   rw[hN (by rw[hEd];decide),hEd]
   rw[hEd]at q56
   refine kQ (yB rfl rfl (zC rfl (zC rfl (zB ?_))))
   refine zH [(1,.lst .ro 1 (zE p)),(2,U.box 0 0)] ([SB.box [.lst .ro 1 (zE (Ln.slots l)),.int .i64 (Ln.left l),.int .i64 (Ln.right l),.int .i64 (Ln.run l)]]) (.n2 rfl) rfl fun fr=>?_
   refine kQ (kB sh24 rfl (zA rfl (zN rfl (q57) (.lrefl _) (zo rfl ze75 ?_))))
   refine zt rfl rfl sh75 rfl rfl rfl rfl rfl ?_
   refine zB ?_
   refine zH [(2,U.box 0 0),(6,U.box 1 0)] ([SB.box [.lst .ro 1 (zE (Ln.slots l)),.int .i64 (Ln.left l),.int .i64 (Ln.right l),.int .i64 (Ln.run l)],SB.box [.lst .ro 1 (zE (Ln.slots l)),.int .i64 (Ln.left l),.int .i64 (Ln.right l),.int .i64 (Ln.run l),.lst .ro 1 (zE p)]]) (.n2 rfl) rfl fun fr=>?_
   refine k_seq (kQ (kB sh24 rfl (kB sh75 rfl ?_)))
   refine zCw rfl ?_
   refine wv (es:=[U.fn 58 [U.agg [U.lst Kd.ro 1 (zE (Ln.slots l)),.int .i64 (Ln.left l),.int .i64 (Ln.right l),.int .i64 (Ln.run l),U.lst Kd.ro 1 (zE p)]] []]) rfl zGq ze34 cl34 rfl rfl rfl rfl rfl rfl rfl rfl ?_
   refine zN rfl (q56) (.lcons _ _ _ _ (.refl _) (.lcons _ _ _ _ (.ro _ _ _) (.lrefl _))) ?_
   refine zC rfl (zB (kQ (zA rfl (kr rfl (zB (k_cT rfl rfl ?_))))))
   refine kQ (zA rfl (zC rfl (zC rfl (zB (zY ?_)))))
   refine⟨.inr rfl,_,.cons _ _ _ _ (.tmp 4) (.cons _ _ _ _ (.tmp 5) .nil),?_⟩
   exact .refl _
  |true=>
   rw[hd,if_pos rfl]at hEd
   rw[hN0 hEd,hEd]
   rw[hEd]at q56
   have q90:=ret90 (orc:=orc) hi h hd
   refine kQ (yB rfl rfl (zC rfl (zC rfl (zB ?_))))
   refine zH [(1,.lst .ro 1 (zE p)),(2,U.box 0 0)] ([SB.box [.lst .ro 1 (zE (Ln.slots l)),.int .i64 (Ln.left l),.int .i64 (Ln.right l),.int .i64 (Ln.run l)]]) (.n2 rfl) rfl fun fr=>?_
   refine kQ (kB sh24 rfl (zA rfl (zN rfl (q57) (.lrefl _) (zo rfl ze75 ?_))))
   refine zt rfl rfl sh75 rfl rfl rfl rfl rfl ?_
   refine zB ?_
   refine zH [(2,U.box 0 0),(6,U.box 1 0)] ([SB.box [.lst .ro 1 (zE (Ln.slots l)),.int .i64 (Ln.left l),.int .i64 (Ln.right l),.int .i64 (Ln.run l)],SB.box [.lst .ro 1 (zE (Ln.slots l)),.int .i64 (Ln.left l),.int .i64 (Ln.right l),.int .i64 (Ln.run l),.lst .ro 1 (zE p)]]) (.n2 rfl) rfl fun fr=>?_
   refine k_seq (kQ (kB sh24 rfl (kB sh75 rfl ?_)))
   refine zCw rfl ?_
   refine wv (es:=[U.fn 58 [U.agg [U.lst Kd.ro 1 (zE (Ln.slots l)),.int .i64 (Ln.left l),.int .i64 (Ln.right l),.int .i64 (Ln.run l),U.lst Kd.ro 1 (zE p)]] []]) rfl zGq ze34 cl34 rfl rfl rfl rfl rfl rfl rfl rfl ?_
   refine zN rfl (q56) (.lcons _ _ _ _ (.refl _) (.lcons _ _ _ _ (.ro _ _ _) (.lrefl _))) ?_
   refine zC rfl (zB (kQ (zA rfl (kr rfl (zB (k_cF rfl rfl ?_))))))
   refine zK (kQ (kB sh75 rfl (zN rfl (q90) (.lrefl _) (zC rfl (zC rfl (zB (zY ?_)))))))
   refine⟨.inr rfl,_,.cons _ _ _ _ (.tmp 4) (.cons _ _ _ _ (.tmp 5) .nil),?_⟩
   exact .refl _
end
section
variable {is:FuncId→Bool}{orc:Known}{l:Ln}
def alkQ(l:Ln)(p:List Int)(x y:Nat×Nat):Prop:=x≠y∧0<max (x.2:Int) y.2∧sndL l p x=sndL l p y
theorem whoL_len(l:Ln)(p S:List Int):(whoL l p S (preL 18)).length≤18:=by
 have:=List.length_filter_le (fun x=>decide (i16 (hrN l p x.1 x.2 p.length)=S)) (preL 18)
 have e:(preL 18).length=18:=by simp[preL]
 unfold whoL
 omega
theorem cnt_take{L:List (Nat×Nat)}{b j:Nat}{x:Nat×Nat}(h:L[j]? =some x):((L.take (j+1)).filter fun x=>decide (x.2≤b)).length=((L.take j).filter fun x=>decide (x.2≤b)).length+(if x.2≤b then 1 else 0):=by
 rw[List.take_add_one,h,List.filter_append,List.length_append]
 show _+(List.filter _ [x]).length=_
 by_cases c:x.2≤b
 ·rw[if_pos c,List.filter_cons_of_pos (by simpa using c)];rfl
 ·rw[if_neg c,List.filter_cons_of_neg (by simpa using c)];rfl
end
end Go.Proofs.YthhbfbmfhldbaaaDoor.locks
