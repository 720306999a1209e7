import Derived.Test.YthhbfbmfhldbaaaDoorVamT14
set_option linter.unusedVariables false
set_option linter.unusedSimpArgs false
set_option linter.constructorNameAsVariable false
namespace Go.Proofs.YthhbfbmfhldbaaaDoor.locks
open Vam
variable {is:FuncId→Bool}{orc:Known}{l:Ln}
theorem ze34:yO Tryd.prog 34=some ((.cons .nilf .nil):V):=by kernel_rfl
noncomputable def b27:Code:=(Tryd.f27.body).getD .skip
theorem body27:bodyOf Tryd.prog 27=some (34,b27,[.tmp 6,.tmp 7]):=by kernel_rfl
theorem pure27:pureFn Tryd.prog 27=true:=by kernel_rfl
theorem memP_more{P:Nat→Bool}{n:Nat}:∀m:Nat,n≤m→(∀k,n≤k→k<m→P k=false)→memP P m=memP P n:=by
 intro m
 induction m with
 |zero=>intro h _;rw[show n=0 by omega]
 |succ m ih=>
  intro h hf
  by_cases e:n=m+1
  ·rw[e]
  ·rw[zFJ,hf m (by omega) (by omega),if_neg (by decide),List.append_nil]
   exact ih (by omega) fun k h1 h2=>hf k h1 (by omega)
theorem prt16{p:List Int}(hp:p.length≤16){w:Int}(hw:w≠ -1):memP (plF p w) 16=prtL p w:=by
 unfold prtL
 refine memP_more (P:=plF p w) 16 hp fun k h1 _=>?_
 unfold plF at'
 rw[List.getElem?_eq_none h1]
 exact kG fun h=>hw h.symm
theorem zEt{w:Int}{H:List Int}:zAh l w H=true↔(w=0∨w=1)∧H.Pairwise (fun x y=>x<y)∧∀x∈H,0≤x∧x<l.slots.length:=by
 unfold zAh
 rw[Bool.and_eq_true,zAU,grw_iff]
 constructor
 ·rintro⟨h1,h2,h3⟩;exact⟨by omega,h2,fun x hx=>by have:=h3 x hx;omega⟩
 ·rintro⟨h1,h2,h3⟩;exact⟨by omega,h2,fun x hx=>by have:=h3 x hx;omega⟩
noncomputable def zBJ(l:Ln)(w:Int)(H:List Int):Int:=if wX l=true then if zAh l w H=true then if divB l (aloL l w H)=true then 0 else 4 else 71 else 70
noncomputable def zAk(l:Ln)(w:Int)(H:List Int):List Int:=if zBJ l w H=0 then prtL (aloL l w H) (1 - w)else []
set_option maxHeartbeats 16000000 in
theorem ret27(hi:Off is)(l:Ln)(w:Int)(H:List Int):RetP Tryd.prog is orc 27 [l.u,.int .i64 w,.lst .ro 1 (zE H)] (.tup [.lst .ro 1 (zE (zAk l w H)),.int .i64 (zBJ l w H)]):=by
 refine yJ body27 pure27 (hi 27 (by decide)) rfl rfl (dat_l3 (zAO l 5) (.int _ _ _) (zw 6 .ro (fun h=>by cases h) 1 H)) (.inr ⟨_,rfl,zAP (zw 5 .ro (fun h=>by cases h) 1 _) (.int _ _ _)⟩) ?_
 have q70:=ret70 (orc:=orc) hi l w H
 have q56:=ret56 (orc:=orc) hi l [⟨71,[witU l w H],zAh l w H⟩] (fun q hq u hu=>by
  rcases List.mem_singleton.1 hq with rfl
  exact(zAQ (dat_wit l w H 5) u hu).nb) (fun hv i q hq _=>by
  have hn:=(zCx.1 hv).n
  match i,hq with
  |0,hq=>cases hq;exact ret71 hi (by omega) w H) (by show 1≤10;omega)
 have q56:RetP Tryd.prog is orc 56 [l.u,.lst .ro 1 [.fn 71 [witU l w H] []]] (.int .i64 (askI l [⟨71,[witU l w H],zAh l w H⟩])):=q56
 have hask:askI l [⟨71,[witU l w H],zAh l w H⟩]=if wX l=true then if zAh l w H=true then 0 else 71 else 70:=by
  unfold askI
  show(if wX l=true then if(zAh l w H&&true)=true then(0:Int)else 71 else 70)=_
  rw[Bool.and_true]
 rw[hask]at q56
 cases hv:wX l with
 |false=>
  have hE:zBJ l w H=70:=by unfold zBJ;rw[hv];rfl
  have hL:zAk l w H=[]:=by unfold zAk;rw[hE];rfl
  rw[hE,hL]
  rw[hv,if_neg (by decide)]at q56
  refine kQ (yb rfl rfl (zC rfl (zC rfl (zB ?_))))
  refine zI [(1,.int .i64 w),(2,.lst .ro 1 (zE H)),(3,U.box 0 0)] ([SB.box [.lst .ro 1 (zE (Ln.slots l)),.int .i64 (Ln.left l),.int .i64 (Ln.right l),.int .i64 (Ln.run l)]]) (.n3 rfl) rfl fun fr=>?_
  refine kQ (kB sh24 rfl (zA rfl (zA rfl (zL rfl (q70) (.lrefl _) (yL rfl ze92 ?_)))))
  refine zp rfl rfl sh92 rfl rfl rfl rfl rfl ?_
  refine zB ?_
  refine zI [(1,.int .i64 w),(3,U.box 0 0),(8,U.box 1 0)] ([SB.box [.lst .ro 1 (zE (Ln.slots l)),.int .i64 (Ln.left l),.int .i64 (Ln.right l),.int .i64 (Ln.run l)],SB.box [.lst .ro 1 (zE (Ln.slots l)),.int .i64 (Ln.left l),.int .i64 (Ln.right l),.int .i64 (Ln.run l),.int .i64 w,.lst .ro 1 (zE H)]]) (.n3 rfl) rfl fun fr=>?_
  refine k_seq (kQ (kB sh24 rfl (kB sh92 rfl ?_)))
  refine zFE rfl ?_
  refine zAT (es:=[U.fn 71 [U.agg [U.lst Kd.ro 1 (zE (Ln.slots l)),.int .i64 (Ln.left l),.int .i64 (Ln.right l),.int .i64 (Ln.run l),.int .i64 w,U.lst Kd.ro 1 (zE H)]] []]) rfl ty116 ze34 cl34 rfl rfl rfl rfl rfl rfl rfl rfl ?_
  refine zL rfl (q56) (.lcons _ _ _ _ (.refl _) (.lcons _ _ _ _ (.ro _ _ _) (.lrefl _))) ?_
  refine zC rfl (zB (kQ (zA rfl (kr rfl (zB (k_cT rfl rfl ?_))))))
  refine kQ (zA rfl (zC rfl (zC rfl (zB (za ?_)))))
  refine⟨.inr rfl,_,.cons _ _ _ _ (.tmp 6) (.cons _ _ _ _ (.tmp 7) .nil),?_⟩
  exact .tup _ _ (.lcons _ _ _ _ (.nil .full .ro 1) (.lrefl _))
 |true=>
  have h:=zCx.1 hv
  have hn:=h.n
  rw[hv,if_pos rfl]at q56
  cases hr:zAh l w H with
  |false=>
   have hE:zBJ l w H=71:=by unfold zBJ;rw[hv,if_pos rfl,hr];rfl
   have hL:zAk l w H=[]:=by unfold zAk;rw[hE];rfl
   rw[hE,hL]
   rw[hr,if_neg (by decide)]at q56
   refine kQ (yb rfl rfl (zC rfl (zC rfl (zB ?_))))
   refine zI [(1,.int .i64 w),(2,.lst .ro 1 (zE H)),(3,U.box 0 0)] ([SB.box [.lst .ro 1 (zE (Ln.slots l)),.int .i64 (Ln.left l),.int .i64 (Ln.right l),.int .i64 (Ln.run l)]]) (.n3 rfl) rfl fun fr=>?_
   refine kQ (kB sh24 rfl (zA rfl (zA rfl (zL rfl (q70) (.lrefl _) (yL rfl ze92 ?_)))))
   refine zp rfl rfl sh92 rfl rfl rfl rfl rfl ?_
   refine zB ?_
   refine zI [(1,.int .i64 w),(3,U.box 0 0),(8,U.box 1 0)] ([SB.box [.lst .ro 1 (zE (Ln.slots l)),.int .i64 (Ln.left l),.int .i64 (Ln.right l),.int .i64 (Ln.run l)],SB.box [.lst .ro 1 (zE (Ln.slots l)),.int .i64 (Ln.left l),.int .i64 (Ln.right l),.int .i64 (Ln.run l),.int .i64 w,.lst .ro 1 (zE H)]]) (.n3 rfl) rfl fun fr=>?_
   refine k_seq (kQ (kB sh24 rfl (kB sh92 rfl ?_)))
   refine zFE rfl ?_
   refine zAT (es:=[U.fn 71 [U.agg [U.lst Kd.ro 1 (zE (Ln.slots l)),.int .i64 (Ln.left l),.int .i64 (Ln.right l),.int .i64 (Ln.run l),.int .i64 w,U.lst Kd.ro 1 (zE H)]] []]) rfl ty116 ze34 cl34 rfl rfl rfl rfl rfl rfl rfl rfl ?_
   refine zL rfl (q56) (.lcons _ _ _ _ (.refl _) (.lcons _ _ _ _ (.ro _ _ _) (.lrefl _))) ?_
   refine zC rfl (zB (kQ (zA rfl (kr rfl (zB (k_cT rfl rfl ?_))))))
   refine kQ (zA rfl (zC rfl (zC rfl (zB (za ?_)))))
   refine⟨.inr rfl,_,.cons _ _ _ _ (.tmp 6) (.cons _ _ _ _ (.tmp 7) .nil),?_⟩
   exact .tup _ _ (.lcons _ _ _ _ (.nil .full .ro 1) (.lrefl _))
  |true=>
   obtain⟨hw,hp,hb⟩:=zEt.1 hr
   have hlen:H.length≤16:=by
    have:=zCU (fun i=>decide ((i:Int)∈H)) l.slots.length
    rw[inc_memP hp hb]at this
    omega
   have hEd:zBJ l w H=if divB l (aloL l w H)=true then 0 else 4:=by unfold zBJ;rw[hv,if_pos rfl,hr,if_pos rfl]
   rw[hr,if_pos rfl]at q56
   have q72:=ret72 (orc:=orc) hi (l:=l) (by omega) hw (H:=H) (fun x hx=>by have:=hb x hx;omega) (by omega)
   have hal:=zFc l w H
   have q58:=ret58 (orc:=orc) hi h (aloL l w H)
   have q73:=ret73 (orc:=orc) hi l (p:=aloL l w H) (by omega)
   have q74:=ret74 (orc:=orc) hi (w:=w) (by omega)
   have hpr:=prt16 (p:=aloL l w H) (by omega) (w:=1 - w) (by omega)
   have hLd:divB l (aloL l w H)=true→zAk l w H=prtL (aloL l w H) (1 - w):=fun e=>by unfold zAk;rw[hEd,if_pos e,if_pos rfl]
   have hLn:divB l (aloL l w H)=false→zAk l w H=[]:=fun e=>by unfold zAk;rw[hEd,if_neg (by rw[e];decide)]
   have q69a:=ret69 (orc:=orc) hi (plF (aloL l w H) 0)
   have q69b:=ret69 (orc:=orc) hi (plF (aloL l w H) 1)
   cases hd:divB l (aloL l w H)with
   |false=>
    rw[hLn hd,hEd,if_neg (by rw[hd];decide)]
    rw[hd]at q58
    generalize aloL l w H=A at*
    refine kQ (yb rfl rfl (zC rfl (zC rfl (zB ?_))))
    refine zI [(1,.int .i64 w),(2,.lst .ro 1 (zE H)),(3,U.box 0 0)] ([SB.box [.lst .ro 1 (zE (Ln.slots l)),.int .i64 (Ln.left l),.int .i64 (Ln.right l),.int .i64 (Ln.run l)]]) (.n3 rfl) rfl fun fr=>?_
    refine kQ (kB sh24 rfl (zA rfl (zA rfl (zL rfl (q70) (.lrefl _) (yL rfl ze92 ?_)))))
    refine zp rfl rfl sh92 rfl rfl rfl rfl rfl ?_
    refine zB ?_
    refine zI [(1,.int .i64 w),(3,U.box 0 0),(8,U.box 1 0)] ([SB.box [.lst .ro 1 (zE (Ln.slots l)),.int .i64 (Ln.left l),.int .i64 (Ln.right l),.int .i64 (Ln.run l)],SB.box [.lst .ro 1 (zE (Ln.slots l)),.int .i64 (Ln.left l),.int .i64 (Ln.right l),.int .i64 (Ln.run l),.int .i64 w,.lst .ro 1 (zE H)]]) (.n3 rfl) rfl fun fr=>?_
    refine k_seq (kQ (kB sh24 rfl (kB sh92 rfl ?_)))
    refine zFE rfl ?_
    refine zAT (es:=[U.fn 71 [U.agg [U.lst Kd.ro 1 (zE (Ln.slots l)),.int .i64 (Ln.left l),.int .i64 (Ln.right l),.int .i64 (Ln.run l),.int .i64 w,U.lst Kd.ro 1 (zE H)]] []]) rfl ty116 ze34 cl34 rfl rfl rfl rfl rfl rfl rfl rfl ?_
    refine zL rfl (q56) (.lcons _ _ _ _ (.refl _) (.lcons _ _ _ _ (.ro _ _ _) (.lrefl _))) ?_
    refine zC rfl (zB (kQ (zA rfl (kr rfl (zB (k_cF rfl rfl ?_))))))
    refine zJ (kQ (kB sh92 rfl (zL rfl (q72) (.lrefl _) (yL rfl ze75 ?_))))
    refine zp rfl rfl sh75 rfl rfl rfl rfl rfl ?_
    refine zB ?_
    refine zI [(1,.int .i64 w),(10,U.box 2 0)] ([SB.box [.lst .ro 1 (zE (Ln.slots l)),.int .i64 (Ln.left l),.int .i64 (Ln.right l),.int .i64 (Ln.run l)],SB.box [.lst .ro 1 (zE (Ln.slots l)),.int .i64 (Ln.left l),.int .i64 (Ln.right l),.int .i64 (Ln.run l),.int .i64 w,.lst .ro 1 (zE H)],SB.box [.lst .ro 1 (zE (Ln.slots l)),.int .i64 (Ln.left l),.int .i64 (Ln.right l),.int .i64 (Ln.run l),.lst .ro 1 (zE A)]]) (.n2 rfl) rfl fun fr=>?_
    refine k_seq (kQ (kB sh75 rfl (zL rfl (q58) (.lrefl _) (yW rfl rfl (zB (k_cT rfl rfl ?_))))))
    refine kQ (zC rfl (zC rfl (zB (za ?_))))
    refine⟨.inr rfl,_,.cons _ _ _ _ (.tmp 6) (.cons _ _ _ _ (.tmp 7) .nil),?_⟩
    exact .tup _ _ (.lcons _ _ _ _ (.nil .full .ro 1) (.lrefl _))
   |true=>
    rw[hLd hd,hEd,if_pos hd]
    rw[hd]at q58
    unfold spU at q73
    clear hLd hLn hEd hask
    rcases hw with rfl|rfl
    ·have hpr:memP (plF (aloL l 0 H) 1) 16=prtL (aloL l 0 H) (1 - 0):=hpr
     rw[←hpr]
     clear hpr q69a
     generalize memP (plF (aloL l 0 H) 1) 16=M at*
     have l1:=zt (plF (aloL l 0 H) 0)
     have l2:=zt (plF (aloL l 0 H) 1)
     generalize b16 (plF (aloL l 0 H) 0)=S at*
     generalize b16 (plF (aloL l 0 H) 1)=T at*
     generalize aloL l 0 H=A at*
     obtain⟨a0,a1,a2,a3,a4,a5,a6,a7,a8,a9,a10,a11,a12,a13,a14,a15,rfl⟩:=zAm l1
     obtain⟨b0,b1,b2,b3,b4,b5,b6,b7,b8,b9,b10,b11,b12,b13,b14,b15,rfl⟩:=zAm l2
     refine kQ (yb rfl rfl (zC rfl (zC rfl (zB ?_))))
     refine zI [(1,.int .i64 0),(2,.lst .ro 1 (zE H)),(3,U.box 0 0)] ([SB.box [.lst .ro 1 (zE (Ln.slots l)),.int .i64 (Ln.left l),.int .i64 (Ln.right l),.int .i64 (Ln.run l)]]) (.n3 rfl) rfl fun fr=>?_
     refine kQ (kB sh24 rfl (zA rfl (zA rfl (zL rfl (q70) (.lrefl _) (yL rfl ze92 ?_)))))
     refine zp rfl rfl sh92 rfl rfl rfl rfl rfl ?_
     refine zB ?_
     refine zI [(1,.int .i64 0),(3,U.box 0 0),(8,U.box 1 0)] ([SB.box [.lst .ro 1 (zE (Ln.slots l)),.int .i64 (Ln.left l),.int .i64 (Ln.right l),.int .i64 (Ln.run l)],SB.box [.lst .ro 1 (zE (Ln.slots l)),.int .i64 (Ln.left l),.int .i64 (Ln.right l),.int .i64 (Ln.run l),.int .i64 0,.lst .ro 1 (zE H)]]) (.n3 rfl) rfl fun fr=>?_
     refine k_seq (kQ (kB sh24 rfl (kB sh92 rfl ?_)))
     refine zFE rfl ?_
     refine zAT (es:=[U.fn 71 [U.agg [U.lst Kd.ro 1 (zE (Ln.slots l)),.int .i64 (Ln.left l),.int .i64 (Ln.right l),.int .i64 (Ln.run l),.int .i64 0,U.lst Kd.ro 1 (zE H)]] []]) rfl ty116 ze34 cl34 rfl rfl rfl rfl rfl rfl rfl rfl ?_
     refine zL rfl (q56) (.lcons _ _ _ _ (.refl _) (.lcons _ _ _ _ (.ro _ _ _) (.lrefl _))) ?_
     refine zC rfl (zB (kQ (zA rfl (kr rfl (zB (k_cF rfl rfl ?_))))))
     refine zJ (kQ (kB sh92 rfl (zL rfl (q72) (.lrefl _) (yL rfl ze75 ?_))))
     refine zp rfl rfl sh75 rfl rfl rfl rfl rfl ?_
     refine zB ?_
     refine zI [(1,.int .i64 0),(10,U.box 2 0)] ([SB.box [.lst .ro 1 (zE (Ln.slots l)),.int .i64 (Ln.left l),.int .i64 (Ln.right l),.int .i64 (Ln.run l)],SB.box [.lst .ro 1 (zE (Ln.slots l)),.int .i64 (Ln.left l),.int .i64 (Ln.right l),.int .i64 (Ln.run l),.int .i64 0,.lst .ro 1 (zE H)],SB.box [.lst .ro 1 (zE (Ln.slots l)),.int .i64 (Ln.left l),.int .i64 (Ln.right l),.int .i64 (Ln.run l),.lst .ro 1 (zE A)]]) (.n2 rfl) rfl fun fr=>?_
     refine k_seq (kQ (kB sh75 rfl (zL rfl (q58) (.lrefl _) (yW rfl rfl (zB (k_cF rfl rfl ?_))))))
     refine zJ (kQ (kB sh75 rfl (zL rfl (q73) (.lrefl _) (zA rfl (zL rfl (q74) (.lrefl _) (zFw (i:=1) rfl ty85 rfl rfl (by decide) cl83 sh83 (Nat.le_of_ble_eq_true rfl) ?_))))))
     refine zL rfl (q69b) (.lrefl _) (zC rfl (zC rfl (zB (za ?_))))
     refine⟨.inr rfl,_,.cons _ _ _ _ (.tmp 6) (.cons _ _ _ _ (.tmp 7) .nil),?_⟩
     exact .refl _
    ·have hpr:memP (plF (aloL l 1 H) 0) 16=prtL (aloL l 1 H) (1 - 1):=hpr
     rw[←hpr]
     clear hpr q69b
     generalize memP (plF (aloL l 1 H) 0) 16=M at*
     have l1:=zt (plF (aloL l 1 H) 0)
     have l2:=zt (plF (aloL l 1 H) 1)
     generalize b16 (plF (aloL l 1 H) 0)=S at*
     generalize b16 (plF (aloL l 1 H) 1)=T at*
     generalize aloL l 1 H=A at*
     obtain⟨a0,a1,a2,a3,a4,a5,a6,a7,a8,a9,a10,a11,a12,a13,a14,a15,rfl⟩:=zAm l1
     obtain⟨b0,b1,b2,b3,b4,b5,b6,b7,b8,b9,b10,b11,b12,b13,b14,b15,rfl⟩:=zAm l2
     refine kQ (yb rfl rfl (zC rfl (zC rfl (zB ?_))))
     refine zI [(1,.int .i64 1),(2,.lst .ro 1 (zE H)),(3,U.box 0 0)] ([SB.box [.lst .ro 1 (zE (Ln.slots l)),.int .i64 (Ln.left l),.int .i64 (Ln.right l),.int .i64 (Ln.run l)]]) (.n3 rfl) rfl fun fr=>?_
     refine kQ (kB sh24 rfl (zA rfl (zA rfl (zL rfl (q70) (.lrefl _) (yL rfl ze92 ?_)))))
     refine zp rfl rfl sh92 rfl rfl rfl rfl rfl ?_
     refine zB ?_
     refine zI [(1,.int .i64 1),(3,U.box 0 0),(8,U.box 1 0)] ([SB.box [.lst .ro 1 (zE (Ln.slots l)),.int .i64 (Ln.left l),.int .i64 (Ln.right l),.int .i64 (Ln.run l)],SB.box [.lst .ro 1 (zE (Ln.slots l)),.int .i64 (Ln.left l),.int .i64 (Ln.right l),.int .i64 (Ln.run l),.int .i64 1,.lst .ro 1 (zE H)]]) (.n3 rfl) rfl fun fr=>?_
     refine k_seq (kQ (kB sh24 rfl (kB sh92 rfl ?_)))
     refine zFE rfl ?_
     refine zAT (es:=[U.fn 71 [U.agg [U.lst Kd.ro 1 (zE (Ln.slots l)),.int .i64 (Ln.left l),.int .i64 (Ln.right l),.int .i64 (Ln.run l),.int .i64 1,U.lst Kd.ro 1 (zE H)]] []]) rfl ty116 ze34 cl34 rfl rfl rfl rfl rfl rfl rfl rfl ?_
     refine zL rfl (q56) (.lcons _ _ _ _ (.refl _) (.lcons _ _ _ _ (.ro _ _ _) (.lrefl _))) ?_
     refine zC rfl (zB (kQ (zA rfl (kr rfl (zB (k_cF rfl rfl ?_))))))
     refine zJ (kQ (kB sh92 rfl (zL rfl (q72) (.lrefl _) (yL rfl ze75 ?_))))
     refine zp rfl rfl sh75 rfl rfl rfl rfl rfl ?_
     refine zB ?_
     refine zI [(1,.int .i64 1),(10,U.box 2 0)] ([SB.box [.lst .ro 1 (zE (Ln.slots l)),.int .i64 (Ln.left l),.int .i64 (Ln.right l),.int .i64 (Ln.run l)],SB.box [.lst .ro 1 (zE (Ln.slots l)),.int .i64 (Ln.left l),.int .i64 (Ln.right l),.int .i64 (Ln.run l),.int .i64 1,.lst .ro 1 (zE H)],SB.box [.lst .ro 1 (zE (Ln.slots l)),.int .i64 (Ln.left l),.int .i64 (Ln.right l),.int .i64 (Ln.run l),.lst .ro 1 (zE A)]]) (.n2 rfl) rfl fun fr=>?_
     refine k_seq (kQ (kB sh75 rfl (zL rfl (q58) (.lrefl _) (yW rfl rfl (zB (k_cF rfl rfl ?_))))))
     refine zJ (kQ (kB sh75 rfl (zL rfl (q73) (.lrefl _) (zA rfl (zL rfl (q74) (.lrefl _) (zFw (i:=0) rfl ty85 rfl rfl (by decide) cl83 sh83 (Nat.le_of_ble_eq_true rfl) ?_))))))
     refine zL rfl (q69a) (.lrefl _) (zC rfl (zC rfl (zB (za ?_))))
     refine⟨.inr rfl,_,.cons _ _ _ _ (.tmp 6) (.cons _ _ _ _ (.tmp 7) .nil),?_⟩
     exact .refl _
end Go.Proofs.YthhbfbmfhldbaaaDoor.locks
