import Derived.Test.YthhbfbmfhldbaaaDoorVamT19
set_option linter.unusedVariables false
set_option linter.unusedSimpArgs false
set_option linter.constructorNameAsVariable false
namespace Go.Proofs.YthhbfbmfhldbaaaDoor.locks
open Vam
variable {is:FuncId→Bool}{orc:Known}{l:Ln}
noncomputable def b11:Code:=(Tryd.f11.body).getD .skip
theorem body11:bodyOf Tryd.prog 11=some (96,b11,[.tmp 4]):=by kernel_rfl
theorem pure11:pureFn Tryd.prog 11=true:=by kernel_rfl
def alkQ(l:Ln)(p:List Int)(x y:Nat×Nat):Prop:=x≠y∧0<max (x.2:Int) y.2∧sndL l p x=sndL l p y
theorem tdI_at{p:List Int}{x:Nat×Nat}:∀(M:List (Nat×Nat)) (t:Int),M.foldl (tdS l p x) t=t∨∃y∈M,alkQ l p x y∧M.foldl (tdS l p x) t=max (x.2:Int) y.2 - 1:=by
 intro M
 induction M with
 |nil=>intro t;exact .inl rfl
 |cons y M ih=>
  intro t
  show M.foldl (tdS l p x) (tdS l p x t y)=t∨∃z∈y::M,alkQ l p x z∧M.foldl (tdS l p x) (tdS l p x t y)=_
  rcases ih (tdS l p x t y)with e|⟨z,hz,hq,e⟩
  ·rw[e]
   unfold tdS
   split
   ·next hc=>
    by_cases hm:t≤max (x.2:Int) y.2 - 1
    ·left;omega
    ·right;exact⟨y,List.mem_cons_self,hc,by omega⟩
   ·left;rfl
  ·right;exact⟨z,List.mem_cons_of_mem _ hz,hq,e⟩
theorem tdO_at{p:List Int}:∀(L:List (Nat×Nat)) (t:Int),L.foldl (tdI l p) t=t∨∃x∈L,∃y∈preL 18,alkQ l p x y∧L.foldl (tdI l p) t=max (x.2:Int) y.2 - 1:=by
 intro L
 induction L with
 |nil=>intro t;exact .inl rfl
 |cons x L ih=>
  intro t
  show L.foldl (tdI l p) (tdI l p t x)=t∨∃z∈x::L,∃y∈preL 18,alkQ l p z y∧L.foldl (tdI l p) (tdI l p t x)=_
  rcases ih (tdI l p t x)with e|⟨z,hz,y,hy,hq,e⟩
  ·rw[e]
   rcases tdI_at (p:=p) (x:=x) (preL 18) t with e2|⟨y,hy,hq,e2⟩
   ·left;exact e2
   ·right;exact⟨x,List.mem_cons_self,y,hy,hq,e2⟩
  ·right;exact⟨z,List.mem_cons_of_mem _ hz,y,hy,hq,e⟩
def alkN(l:Ln)(p:List Int)(w b:Nat)(L:List (Nat×Nat)):Nat:=((whoL l p (sndL l p (w,b)) L).filter fun x=>decide (x.2≤b)).length
theorem two_len{α:Type}{L:List α}{x y:α}(hx:x∈L)(hy:y∈L)(h:x≠y):2≤L.length:=by
 cases L with
 |nil=>cases hx
 |cons a L=>
  cases L with
  |nil=>
   rcases List.mem_singleton.1 hx with rfl
   rcases List.mem_singleton.1 hy with rfl
   exact absurd rfl h
  |cons b L=>simp
theorem alk_two{p:List Int}{x y:Nat×Nat}{w b:Nat}(hx:x∈preL 18)(hy:y∈preL 18)(h:x≠y)(e1:sndL l p x=sndL l p (w,b))(e2:sndL l p y=sndL l p (w,b))(h1:x.2≤b)(h2:y.2≤b):2≤alkN l p w b (preL 18):=by
 unfold alkN whoL
 refine two_len (x:=x) (y:=y) ?_ ?_ h
 ·exact List.mem_filter.2 ⟨List.mem_filter.2 ⟨hx,kF e1⟩,kF h1⟩
 ·exact List.mem_filter.2 ⟨List.mem_filter.2 ⟨hy,kF e2⟩,kF h2⟩
theorem mem_pre{x:Nat×Nat}(h:x∈preL 18):x.1≤1∧x.2≤8:=by
 obtain⟨k,hk,rfl⟩:=List.mem_map.1 h
 have:=List.mem_range.1 hk
 unfold lat
 constructor<;>omega
theorem told_alk{p:List Int}(h:tdO l p (preL 18)≠8):∃w b:Nat,w≤1∧b≤8∧tdO l p (preL 18)+1=b∧2≤alkN l p w b (preL 18):=by
 rcases tdO_at (l:=l) (p:=p) (preL 18) 8 with e|⟨x,hx,y,hy,⟨hne,hm,hs⟩,e⟩
 ·exact absurd e h
 ·have e:tdO l p (preL 18)=max (x.2:Int) y.2 - 1:=e
  have bx:=mem_pre hx
  have by':=mem_pre hy
  by_cases c:y.2≤x.2
  ·exact⟨x.1,x.2,bx.1,bx.2,by omega,alk_two hx hy hne rfl hs.symm (Nat.le_refl _) c⟩
  ·exact⟨y.1,y.2,by'.1,by'.2,by omega,alk_two hx hy hne hs rfl (by omega) (Nat.le_refl _)⟩
theorem whoL_len(l:Ln)(p S:List Int):(whoL l p S (preL 18)).length≤18:=by
 have:=List.length_filter_le (fun x=>decide (i16 (hrN l p x.1 x.2 p.length)=S)) (preL 18)
 have e:(preL 18).length=18:=by simp[preL]
 unfold whoL
 omega
theorem cnt_take{L:List (Nat×Nat)}{b j:Nat}{x:Nat×Nat}(h:L[j]? =some x):((L.take (j+1)).filter fun x=>decide (x.2≤b)).length=((L.take j).filter fun x=>decide (x.2≤b)).length+(if x.2≤b then 1 else 0):=by
 rw[List.take_add_one,h,List.filter_append,List.length_append]
 show _+(List.filter _ [x]).length=_
 by_cases c:x.2≤b
 ·rw[if_pos c,List.filter_cons_of_pos (by simpa using c)];rfl
 ·rw[if_neg c,List.filter_cons_of_neg (by simpa using c)];rfl
set_option maxHeartbeats 32000000 in
theorem ret11(hi:Off is)(l:Ln)(bits:List Int)(r26:RetP Tryd.prog is orc 26 [] (.bool true)):RetP Tryd.prog is orc 11 [l.u,.lst .ro 1 (zE bits)] (.bool true):=by
 refine yQ body11 pure11 (hi 11 (by decide)) rfl rfl (wW (wg l 5) (ya 6 .ro (fun h=>by cases h) 1 bits)) (.inl (.bool _ _)) ?_
 have q41:=ret41 (orc:=orc) hi l
 cases hv:wk l with
 |false=>
  rw[hv]at q41
  refine kQ (yO rfl rfl (zC rfl (zB ?_)))
  refine zH [(1,.lst .ro 1 (zE bits)),(2,U.box 0 0)] ([SB.box [.lst .ro 1 (zE (Ln.slots l)),.int .i64 (Ln.left l),.int .i64 (Ln.right l),.int .i64 (Ln.run l)]]) (.n2 rfl) rfl fun fr=>?_
  refine k_seq (kQ (kB sh24 rfl (zN rfl (q41) (.lrefl _) (yU rfl rfl (zB (k_cT rfl rfl ?_))))))
  refine kQ (zN rfl (r26) (.lrefl _) (zC rfl (zB (zc ?_))))
  refine⟨.inr rfl,_,.cons _ _ _ _ (.tmp 4) .nil,?_⟩
  exact .refl _
 |true=>
  have h:=zBX.1 hv
  have hn:=h.n
  rw[hv]at q41
  have q42:=ret42 (orc:=orc) hi h bits
  have hxl:=drw_len l bits l.slots.length
  generalize drwL l bits l.slots.length=X at*
  have q43:=ret43 (orc:=orc) hi h X
  have q39:=ret39 (orc:=orc) hi l X
  have hE:toldE l X=if wk l=true then if divB l X=true then 0 else 71 else 70:=rfl
  rw[hv,if_pos rfl]at hE
  have hN:toldN l X=if toldE l X=0 then tdO l X (preL 18)else 0:=rfl
  cases hd:divB l X with
  |false=>
   rw[hd]at q43 hE
   rw[if_neg (by decide)]at hE
   rw[hE,if_neg (by decide)]at hN
   rw[hE,hN]at q39
   refine kQ (yO rfl rfl (zC rfl (zB ?_)))
   refine zH [(1,.lst .ro 1 (zE bits)),(2,U.box 0 0)] ([SB.box [.lst .ro 1 (zE (Ln.slots l)),.int .i64 (Ln.left l),.int .i64 (Ln.right l),.int .i64 (Ln.run l)]]) (.n2 rfl) rfl fun fr=>?_
   refine k_seq (kQ (kB sh24 rfl (zN rfl (q41) (.lrefl _) (yU rfl rfl (zB (k_cF rfl rfl ?_))))))
   refine zL (kQ (kB sh24 rfl (zA rfl (zN rfl (q42) (.lrefl _) (zC rfl (zB (kQ (kB sh24 rfl (zA rfl (zN rfl (q39) (.lrefl _) (zA rfl (ku rfl (ku rfl (zC rfl (zC rfl ?_)))))))))))))))
   refine zB ?_
   refine zH [(2,U.box 0 0),(5,.lst .ro 1 (zE X)),(6,.int .i64 0),(7,.int .i64 71)] ([SB.box [.lst .ro 1 (zE (Ln.slots l)),.int .i64 (Ln.left l),.int .i64 (Ln.right l),.int .i64 (Ln.run l)]]) (.n4 rfl) rfl fun fr=>?_
   refine k_seq (kQ (kB sh24 rfl (zA rfl (zN rfl (q43) (.lrefl _) (yU rfl rfl (zB (k_cT rfl rfl ?_)))))))
   refine kQ (zA rfl (ks rfl (zA rfl (kf rfl (zA rfl (kf rfl (ks rfl (kE rfl ?_))))))))
   refine zA rfl (kf rfl (zN rfl (r26) (.lrefl _) (kE rfl ?_)))
   refine zC rfl (zB (zc ?_))
   refine⟨.inr rfl,_,.cons _ _ _ _ (.tmp 4) .nil,?_⟩
   exact .refl _
  |true=>
   rw[hd]at q43 hE
   rw[if_pos rfl]at hE
   rw[hE,if_pos rfl]at hN
   rw[hE,hN]at q39
   have htr:=tdO_rg (l:=l) (p:=X) (preL 18) 8 (by omega)
   have hta:=told_alk (l:=l) (p:=X)
   have htr:0≤tdO l X (preL 18)∧tdO l X (preL 18)≤8:=htr
   generalize tdO l X (preL 18)=T at*
   have q51:=ret51 (orc:=orc) hi T 0 8
   rw[zAH.2 htr]at q51
   by_cases c8:T=8
   ·subst c8
    refine kQ (yO rfl rfl (zC rfl (zB ?_)))
    refine zH [(1,.lst .ro 1 (zE bits)),(2,U.box 0 0)] ([SB.box [.lst .ro 1 (zE (Ln.slots l)),.int .i64 (Ln.left l),.int .i64 (Ln.right l),.int .i64 (Ln.run l)]]) (.n2 rfl) rfl fun fr=>?_
    refine k_seq (kQ (kB sh24 rfl (zN rfl (q41) (.lrefl _) (yU rfl rfl (zB (k_cF rfl rfl ?_))))))
    refine zL (kQ (kB sh24 rfl (zA rfl (zN rfl (q42) (.lrefl _) (zC rfl (zB (kQ (kB sh24 rfl (zA rfl (zN rfl (q39) (.lrefl _) (zA rfl (ku rfl (ku rfl (zC rfl (zC rfl ?_)))))))))))))))
    refine zB ?_
    refine zH [(2,U.box 0 0),(5,.lst .ro 1 (zE X)),(6,.int .i64 8),(7,.int .i64 0)] ([SB.box [.lst .ro 1 (zE (Ln.slots l)),.int .i64 (Ln.left l),.int .i64 (Ln.right l),.int .i64 (Ln.run l)]]) (.n4 rfl) rfl fun fr=>?_
    refine k_seq (kQ (kB sh24 rfl (zA rfl (zN rfl (q43) (.lrefl _) (yU rfl rfl (zB (k_cF rfl rfl ?_)))))))
    refine zL (k_seq (kQ (zA rfl (kr rfl (zA rfl (kf rfl (zA rfl (kf rfl (zN rfl (q51) (.lrefl _) (kf rfl (yU rfl rfl (kD rfl ?_))))))))))))
    refine zB (k_cF rfl rfl ?_)
    refine zL (k_seq (kQ (zA rfl (ks rfl (zB ?_)))))
    refine zH [(2,U.box 0 0),(5,.lst .ro 1 (zE X)),(6,.int .i64 8),(49,U.bool (decide ((8:Int)=(8:Int))))] ([SB.box [.lst .ro 1 (zE (Ln.slots l)),.int .i64 (Ln.left l),.int .i64 (Ln.right l),.int .i64 (Ln.run l)]]) (.n4 rfl) rfl fun fr=>?_
    refine k_cT rfl rfl ?_
    refine kQ (zN rfl (r26) (.lrefl _) (zC rfl (zB (zc ?_))))
    refine⟨.inr rfl,_,.cons _ _ _ _ (.tmp 4) .nil,?_⟩
    exact .refl _
   ·obtain⟨w0,b,hw0,hb8,hTb,hal⟩:=hta c8
    refine kQ (yO rfl rfl (zC rfl (zB ?_)))
    refine zH [(1,.lst .ro 1 (zE bits)),(2,U.box 0 0)] ([SB.box [.lst .ro 1 (zE (Ln.slots l)),.int .i64 (Ln.left l),.int .i64 (Ln.right l),.int .i64 (Ln.run l)]]) (.n2 rfl) rfl fun fr=>?_
    refine k_seq (kQ (kB sh24 rfl (zN rfl (q41) (.lrefl _) (yU rfl rfl (zB (k_cF rfl rfl ?_))))))
    refine zL (kQ (kB sh24 rfl (zA rfl (zN rfl (q42) (.lrefl _) (zC rfl (zB (kQ (kB sh24 rfl (zA rfl (zN rfl (q39) (.lrefl _) (zA rfl (ku rfl (ku rfl (zC rfl (zC rfl ?_)))))))))))))))
    refine zB ?_
    refine zH [(2,U.box 0 0),(5,.lst .ro 1 (zE X)),(6,.int .i64 T),(7,.int .i64 0)] ([SB.box [.lst .ro 1 (zE (Ln.slots l)),.int .i64 (Ln.left l),.int .i64 (Ln.right l),.int .i64 (Ln.run l)]]) (.n4 rfl) rfl fun fr=>?_
    refine k_seq (kQ (kB sh24 rfl (zA rfl (zN rfl (q43) (.lrefl _) (yU rfl rfl (zB (k_cF rfl rfl ?_)))))))
    refine zL (k_seq (kQ (zA rfl (kr rfl (zA rfl (kf rfl (zA rfl (kf rfl (zN rfl (q51) (.lrefl _) (kf rfl (yU rfl rfl (kD rfl ?_))))))))))))
    refine zB (k_cF rfl rfl ?_)
    refine zL (k_seq (kQ (zA rfl (ks rfl (zB ?_)))))
    refine zH [(2,U.box 0 0),(5,.lst .ro 1 (zE X)),(6,.int .i64 T),(49,U.bool (decide (T=(8:Int))))] ([SB.box [.lst .ro 1 (zE (Ln.slots l)),.int .i64 (Ln.left l),.int .i64 (Ln.right l),.int .i64 (Ln.run l)]]) (.n4 rfl) rfl fun fr=>?_
    refine k_cF rfl (kG (by omega)) (zL (k_seq (kQ (zC rfl (zB (zI ?_))))))
    refine ym (fun kk s2=>∃w:Nat,kk+w=2∧(∀v,v<w→ ¬ 2≤alkN l X v b (preL 18))∧s2.st=[.box l.cs]∧Holds s2 [(2,.box 0 0),(5,.lst .ro 1 (zE X)),(6,.int .i64 T),(8,.int .i64 w)]) (fun kk s2 hI=>?_) 2 _ ⟨0,rfl,(fun v hv=>by omega),rfl,.c4 rfl rfl rfl rfl (.nil rfl)⟩
    obtain⟨w,hk,hno,hst2,hs2⟩:=hI
    refine zH _ _ hs2 hst2 fun fr2=>?_
    by_cases hw:w<2
    ·have q33:=ret33 (orc:=orc) hi h hd (w:=(w:Int)) (by omega) (b:=b) hb8
     have q36:=ret36 (orc:=orc) hi h hd (tones_heard h X (w:Int) b)
     rw[sounds_heard h hxl (w:Int) b]at q36
     rw[←hTb]at q33
     have hsw:i16 (hrN l X (w:Int) b X.length)=sndL l X (w,b):=rfl
     rw[hsw]at q36
     have hwl:=whoL_len l X (sndL l X (w,b))
     have hak:alkN l X w b (preL 18)=((whoL l X (sndL l X (w,b)) (preL 18)).filter fun x=>decide (x.2≤b)).length:=rfl
     generalize zFx l X (w:Int) b=R at*
     generalize whoL l X (sndL l X (w,b)) (preL 18)=W at*
     refine k_seq (kQ (zA rfl (kp rfl (zB (k_cT rfl (kF (by omega)) (zL (k_seq (zI (kQ (kB sh24 rfl (zA rfl (zA rfl (zA rfl ?_)))))))))))))
     refine kz rfl (by unfold I64;omega) (zN rfl (q33) (.lrefl _) (zA rfl (ku rfl (ku rfl (zC rfl (zC rfl (zB ?_)))))))
     refine zH [(2,U.box 0 0),(5,.lst .ro 1 (zE X)),(6,.int .i64 T),(8,.int .i64 ↑w),(9,.lst .ro 1 (wP R)),(10,.int .i64 0)] ([SB.box (Ln.cs l)]) (.n6 rfl) rfl fun fr=>?_
     refine kQ (kB sh24 rfl (zA rfl (zA rfl (zN rfl (q36) (.lrefl _) (zA rfl (ku rfl (ku rfl (zC rfl (zC rfl (zB (k_seq (kQ (zA rfl (kr rfl (zA rfl ?_)))))))))))))))
     refine kf rfl (zA rfl (kf rfl (kr rfl (kD rfl ?_))))
     refine zB ?_
     refine zH [(2,U.box 0 0),(5,.lst .ro 1 (zE X)),(6,.int .i64 T),(8,.int .i64 ↑w),(11,.lst .ro 2 (prsU W)),(76,U.bool (decide ((0:Int)≠(0:Int))))] ([SB.box (Ln.cs l)]) (.n6 rfl) rfl fun fr=>?_
     refine k_cF rfl rfl ?_
     refine zL (kQ (zC rfl (zB (k_seq (kQ (zC rfl (zB (zI ?_))))))))
     refine ym (fun mm s3=>∃j:Nat,mm+j=W.length∧s3.st=[.box l.cs]∧Holds s3 [(2,.box 0 0),(5,.lst .ro 1 (zE X)),(6,.int .i64 T),(8,.int .i64 w),(11,.lst .ro 2 (prsU W)),(13,.int .i64 (((W.take j).filter fun x=>decide (x.2≤b)).length)),(14,.int .i64 j)]) (fun mm s3 hJ=>?_) W.length _ ⟨0,rfl,rfl,.c4 rfl rfl rfl rfl (.n3 rfl)⟩
     obtain⟨j,hm,hst3,hs3⟩:=hJ
     by_cases hj:j<W.length
     ·obtain⟨x,hx⟩:∃x,W[j]? =some x:=⟨W[j],List.getElem?_eq_getElem hj⟩
      have hct:=cnt_take (b:=b) hx
      obtain⟨xw,xb⟩:=x
      have hxU:(prsU W)[((j:Nat):Int).toNat]? =some (latU (xw,xb)):=by
       show(W.map latU)[((j:Nat):Int).toNat]? =_
       rw[Int.toNat_natCast,List.getElem?_map,hx];rfl
      have hcl:((W.take j).filter fun x=>decide (x.2≤b)).length≤18:=by
       have:=List.length_filter_le (fun x:Nat×Nat=>decide (x.2≤b)) (W.take j)
       have:=List.length_take_le j W
       omega
      by_cases cb:xb≤b
      ·rw[if_pos cb]at hct
       generalize ((W.take j).filter fun x=>decide (x.2≤b)).length=C at*
       refine zH _ _ hs3 hst3 fun fr3=>?_
       refine k_seq (kQ (zA rfl (zA rfl (zw rfl ty46 rfl (List.length_map _) ?_))))
       refine kp rfl (zB (k_cT rfl (kF (by omega)) (zL (k_seq (zI (kQ (zA rfl (zA rfl (yJ rfl ty46 rfl rfl (by omega) hxU cl36 ?_)))))))))
       refine o_idxE rfl ty36 rfl rfl (by omega) (by omega) cl3 ?_
       refine kC sh3 rfl ?_
       refine zA rfl ?_
       refine kz rfl (by unfold I64;omega) (kq rfl (zB ?_))
       refine zH [(2,U.box 0 0),(5,.lst .ro 1 (zE X)),(6,.int .i64 T),(8,.int .i64 ↑w),(11,.lst .ro 2 (prsU W)),(13,.int .i64 ↑C),(14,.int .i64 ↑j),(90,U.bool (decide (↑(Prod.snd (xw,xb))≤T+(1:Int))))] ([SB.box (Ln.cs l)]) (.n8 rfl) rfl fun fr=>?_
       refine k_cT rfl (kF (by omega)) (k_region (zA rfl ?_))
       refine kz rfl (by unfold I64;omega) (zC rfl (zB (k_region (zA rfl ?_))))
       refine kz rfl (by unfold I64;omega) (zC rfl (zB ?_))
       exact⟨mm - 1,by omega,j+1,by omega,rfl,.c4 rfl rfl rfl rfl (.cons rfl (.cons (by rw[hct];rfl) (.n1 rfl)))⟩
      ·rw[if_neg cb]at hct
       generalize ((W.take j).filter fun x=>decide (x.2≤b)).length=C at*
       refine zH _ _ hs3 hst3 fun fr3=>?_
       refine k_seq (kQ (zA rfl (zA rfl (zw rfl ty46 rfl (List.length_map _) ?_))))
       refine kp rfl (zB (k_cT rfl (kF (by omega)) (zL (k_seq (zI (kQ (zA rfl (zA rfl (yJ rfl ty46 rfl rfl (by omega) hxU cl36 ?_)))))))))
       refine o_idxE rfl ty36 rfl rfl (by omega) (by omega) cl3 ?_
       refine kC sh3 rfl ?_
       refine zA rfl ?_
       refine kz rfl (by unfold I64;omega) (kq rfl (zB ?_))
       refine zH [(2,U.box 0 0),(5,.lst .ro 1 (zE X)),(6,.int .i64 T),(8,.int .i64 ↑w),(11,.lst .ro 2 (prsU W)),(13,.int .i64 ↑C),(14,.int .i64 ↑j),(90,U.bool (decide (↑(Prod.snd (xw,xb))≤T+(1:Int))))] ([SB.box (Ln.cs l)]) (.n8 rfl) rfl fun fr=>?_
       refine k_cF rfl (kG (by omega)) (zL (k_region (zA rfl ?_)))
       refine kz rfl (by unfold I64;omega) (zC rfl (zB ?_))
       exact⟨mm - 1,by omega,j+1,by omega,rfl,.c4 rfl rfl rfl rfl (.cons rfl (.cons (by rw[hct];rfl) (.n1 rfl)))⟩
     ·have hje:j=W.length:=by omega
      subst hje
      rw[List.take_length,←hak]at hs3
      clear hak
      refine zH _ _ hs3 hst3 fun fr3=>?_
      by_cases c2:2≤alkN l X w b (preL 18)
      ·refine k_seq ?_
       refine kQ (zA rfl (zA rfl (zw rfl ty46 rfl (List.length_map _) ?_)))
       refine kp rfl (zB (k_cF rfl (kG (by omega)) (yK (kQ (zA rfl (zFn rfl rfl rfl (zB (k_cT rfl (kF (by omega)) (kQ (zN rfl (r26) (.lrefl _) (zC rfl (zB (zc ?_)))))))))))))
       refine⟨.inr rfl,_,.cons _ _ _ _ (.tmp 4) .nil,?_⟩
       exact .refl _
      ·refine k_seq ?_
       refine kQ (zA rfl (zA rfl (zw rfl ty46 rfl (List.length_map _) ?_)))
       refine kp rfl (zB (k_cF rfl (kG (by omega)) (yK (kQ (zA rfl (zFn rfl rfl rfl (zB (k_cF rfl (kG (by omega)) (zL (k_region (zA rfl ?_)))))))))))
       refine kz rfl (by unfold I64;omega) (zC rfl (zB ?_))
       exact⟨kk - 1,by omega,w+1,by omega,(fun v hv=>by
        by_cases e:v=w
        ·rw[e];exact c2
        ·exact hno v (by omega)),rfl,.c4 rfl rfl rfl rfl (.nil rfl)⟩
    ·exfalso
     exact hno w0 (by omega) hal
end Go.Proofs.YthhbfbmfhldbaaaDoor.locks
