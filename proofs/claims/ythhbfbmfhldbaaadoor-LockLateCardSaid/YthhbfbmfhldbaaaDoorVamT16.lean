import Derived.Test.YthhbfbmfhldbaaaDoorVamT15
set_option linter.unusedVariables false
set_option linter.unusedSimpArgs false
set_option linter.constructorNameAsVariable false
namespace Go.Proofs.YthhbfbmfhldbaaaDoor.locks
open Vam
variable {is:FuncId→Bool}{orc:Known}{l:Ln}
noncomputable def b90:Code:=(Tryd.f90.body).getD .skip
theorem body90:bodyOf Tryd.prog 90=some (41,b90,[.tmp 2]):=by kernel_rfl
theorem pure90:pureFn Tryd.prog 90=true:=by kernel_rfl
def sndL(l:Ln)(p:List Int)(x:Nat×Nat):List Int:=i16 (hrN l p x.1 x.2 p.length)
def tdS(l:Ln)(p:List Int)(x:Nat×Nat)(t:Int)(y:Nat×Nat):Int:=if x≠y∧0<max (x.2:Int) y.2∧sndL l p x=sndL l p y then min t (max (x.2:Int) y.2 - 1)else t
def tdI(l:Ln)(p:List Int)(t:Int)(x:Nat×Nat):Int:=(preL 18).foldl (tdS l p x) t
def tdO(l:Ln)(p:List Int)(L:List (Nat×Nat)):Int:=L.foldl (tdI l p) 8
theorem tdS_rg{p:List Int}{x y:Nat×Nat}{t:Int}(h:0≤t∧t≤8):0≤tdS l p x t y∧tdS l p x t y≤8:=by
 unfold tdS
 split
 ·omega
 ·exact h
theorem tdI_rg{p:List Int}{x:Nat×Nat}:∀(M:List (Nat×Nat)) (t:Int),0≤t∧t≤8→0≤M.foldl (tdS l p x) t∧M.foldl (tdS l p x) t≤8:=by
 intro M
 induction M with
 |nil=>intro t h;exact h
 |cons y M ih=>intro t h;exact ih _ (tdS_rg h)
theorem tdO_rg{p:List Int}:∀(L:List (Nat×Nat)) (t:Int),0≤t∧t≤8→0≤L.foldl (tdI l p) t∧L.foldl (tdI l p) t≤8:=by
 intro L
 induction L with
 |nil=>intro t h;exact h
 |cons y L ih=>intro t h;exact ih _ (tdI_rg _ _ h)
theorem bd_int1(a:Int)(m:Nat):BdS m (.box [.int .i64 a]):=fun c hc=>by
 rcases List.mem_singleton.1 hc with rfl;exact Bd.int _ _ _
noncomputable def tdV(l:Ln)(p:List Int)(t:Int):List SB:=[.box (zCi l p),.box [.int .i64 t],.box (zCi l p),.map (esL l p (preL 18)),.box [.mp 3],.box [.mp 3]]
theorem tdV_bd(l:Ln)(p:List Int)(t:Int):∀x∈tdV l p t,BdS 6 x:=fun x hx=>by
 unfold tdV at hx
 simp only[List.mem_cons,List.not_mem_nil,or_false]at hx
 rcases hx with rfl|rfl|rfl|rfl|rfl|rfl
 ·exact zDU l p _
 ·exact bd_int1 _ _
 ·exact zDU l p _
 ·exact bd_es zCb _
 ·intro c hc;rcases List.mem_singleton.1 hc with rfl;exact Bd.mp (by omega)
 ·intro c hc;rcases List.mem_singleton.1 hc with rfl;exact Bd.mp (by omega)
theorem ne107(w b v c:Nat):binV Tryd.prog 107 .neq (valK (latU (w,b))) (valK (latU (v,c)))=some (.bool (decide ((w,b)≠(v,c)))):=by
 have h:binV Tryd.prog 107 .neq (valK (latU (w,b))) (valK (latU (v,c)))=opt none (fun x=>some (V.bool (!x))) (Vam.cond (ieq (w:Int) v) (Vam.cond (ieq (b:Int) c) (some true) (some false)) (some false)):=by kernel_rfl
 rw[h,zAF,zAF]
 by_cases e1:w=v
 ·subst e1
  rw[show((w:Int)==w)=true by simp]
  by_cases e2:b=c
  ·subst e2
   rw[show((b:Int)==b)=true by simp]
   show some (V.bool (!true))=_
   rw[kG (by simp)];rfl
  ·rw[show((b:Int)==c)=false by simp;omega]
   show some (V.bool (!false))=_
   rw[kF (by simp[e2])];rfl
 ·rw[show((w:Int)==v)=false by simp;omega]
  show some (V.bool (!false))=_
  rw[kF (by simp[e1])];rfl
set_option maxHeartbeats 16000000 in
theorem ret90(hi:Off is)(h:VL l){p:List Int}(hd:divB l p=true):RetP Tryd.prog is orc 90 [zCh l p] (.int .i64 (tdO l p (preL 18))):=by
 refine yH body90 pure90 (hi 90 (by decide)) rfl rfl (wk (zBb l p 5)) (.inl (.int _ _ _)) ?_
 have q106:=ret106 (orc:=orc) hi
 have hb2:∀x∈([.box (zCi l p),.box [.int .i64 8]]:List SB),BdS 2 x:=fun x hx=>by
  simp only[List.mem_cons,List.not_mem_nil,or_false]at hx
  rcases hx with rfl|rfl
  ·exact zDU l p _
  ·exact bd_int1 _ _
 have hw:=wpc105 (orc:=orc) hi h hd [.box (zCi l p),.box [.int .i64 8]] hb2
 refine kQ (yB rfl rfl (zC rfl (zB ?_)))
 refine zH [(1,U.box 0 0)] ([SB.box [.lst .ro 1 (zE (Ln.slots l)),.int .i64 (Ln.left l),.int .i64 (Ln.right l),.int .i64 (Ln.run l),.lst .ro 1 (zE p)]]) (.n1 rfl) rfl fun fr=>?_
 refine kQ (zo rfl ze3 ?_)
 refine yl rfl rfl sh3 rfl rfl (zB ?_)
 refine zH [(1,U.box 0 0),(3,U.box 1 0)] ([SB.box [.lst .ro 1 (zE (Ln.slots l)),.int .i64 (Ln.left l),.int .i64 (Ln.right l),.int .i64 (Ln.run l),.lst .ro 1 (zE p)],SB.box [.int .i64 8]]) (.n2 rfl) rfl fun fr=>?_
 refine kQ (kB sh75 rfl ?_)
 refine zGL rfl hw (.lrefl _) (fun u st1 hM=>?_)
 obtain⟨rfl,rfl⟩:=hM
 refine zo rfl ze136 ?_
 refine yl rfl (yj _ _) zFJ rfl rfl ?_
 refine zB ?_
 refine zH [(3,.box 1 0),(4,.box 5 0)] (tdV l p 8) (.n2 rfl) rfl fun fr2=>?_
 refine k_seq (kQ (zN rfl (q106) (.lrefl _) (zB (zG (zEI [(3,.box 1 0),(4,.box 5 0),(10,.fn 114 [] [])] (tdV l p (tdO l p [])) (.n3 rfl) rfl ?_)))))
 refine zFh (n:=6) (I:=fun L Z=>Z=tdV l p (tdO l p L)) (D:=fun _ _=>False) (ex:=.ret) hi gen114E rfl ?_ ?_ ?_ rfl rfl rfl ?_ ?_
 ·have hlpb:∀(i:Nat),Bd (6+1) (dg (zBj [(3,.box 1 0),(4,.box 5 0),(10,.fn 114 [] [])] i .junk)):=fun i=>by
   refine zCy (p:=fun u=>Bd (6+1) (dg u)) ?_ (Bd.junk _) i
   intro x hx
   simp only[List.mem_cons,List.not_mem_nil,or_false]at hx
   rcases hx with rfl|rfl|rfl
   ·exact Bd.box (by omega)
   ·exact Bd.box (by omega)
   ·exact(zGP _).bd _
  refine⟨?_,?_,?_,?_,?_,?_,?_,fun i=>zAe _,⟨11,rfl,rfl⟩,?_⟩
  ·rintro L st' ⟨Z,e,_,hZl,_,rfl⟩;simp[hZl];omega
  ·rintro L st' ⟨Z,e,hf,_⟩;cases hf
  ·rintro L st' ⟨Z,e,hZ,hZl,_,rfl⟩;exact⟨Z,[],hZ,hZl,(fun x hx=>by cases hx),zCm hZl⟩
  ·rintro L st' ⟨Z,e,hf,_⟩;cases hf
  ·rintro L st' ⟨Z,e,rfl,hZl,_,rfl⟩ x hx
   rw[zCm hZl]at hx
   rcases List.mem_append.1 hx with hx|hx
   ·exact BdS.mono (tdV_bd _ _ _ x hx) (by omega)
   ·rcases List.mem_singleton.1 hx with rfl
    exact hlpb
  ·rintro L st' ⟨Z,e,hf,_⟩;cases hf
  ·rintro L st' ⟨Z,e,_,hZl,_,rfl⟩;exact at_n hZl
  ·generalize hlp:lpOf _ _ _ _=lp
   rintro is orc hi L ⟨w,b⟩ rr st' hrr ⟨Z,e,rfl,hZl,hbe,rfl⟩
   obtain⟨hw1,hb8⟩:=pre_rg hrr
   have hsno:tdO l p (L++[(w,b)])=tdI l p (tdO l p L) (w,b):=by unfold tdO;rw[List.foldl_append];rfl
   have htr:0≤tdO l p L∧tdO l p L≤8:=tdO_rg L 8 (by omega)
   have q106:=ret106 (orc:=orc) hi
   have hlb:∀i,Bd 7 (lp.fr i):=fun i=>by rw[←hlp];exact hlpb i
   unfold WpY
   rw[←congrArg Lp.assign hlp,←congrArg Lp.body hlp,←congrArg Lp.ps hlp,←congrArg Lp.fr hlp]
   generalize tdO l p L=t at*
   obtain⟨Y1,hY1⟩:∃Y,Y=tdV l p t++(SB.loop .ready lp::e):=⟨_,rfl⟩
   rw[←hY1]
   refine k_region (zo rfl ze107 ?_)
   refine zt rfl (yj _ _) zAw rfl rfl rfl rfl rfl ?_
   refine zB ?_
   have hYl:Y1.length=7+e.length:=by rw[hY1,List.length_append,List.length_cons];show 6+(e.length+1)=_;omega
   refine⟨rfl,?_,?_⟩
   ·show((Y1++[SB.box _]).set Y1.length (SB.box _))[6]? =_
    rw[yw,hY1];rfl
   ·obtain⟨W,hW⟩:∃W:Int→List SB,W=fun t'=>tdV l p t'++(SB.loop .busy lp::(e++[SB.box [.int .i64 (w:Int),.int .i64 (b:Int)]])):=⟨_,rfl⟩
    have hWl:∀t',(W t').length=Y1.length+1:=fun t'=>by rw[hW,hYl];show(tdV l p t'++_).length=_;rw[List.length_append,List.length_cons,List.length_append];show 6+(e.length+1+1)=_;omega
    have w1:∀t',(W t')[1]? =some (.box [.int .i64 t']):=fun t'=>by rw[hW];rfl
    have w3:∀t',(W t')[3]? =some (.map (esL l p (preL 18))):=fun t'=>by rw[hW];rfl
    have w5:∀t',(W t')[5]? =some (.box [.mp 3]):=fun t'=>by rw[hW];rfl
    have w7:∀t',(W t')[Y1.length]? =some (SB.box [.int .i64 (w:Int),.int .i64 (b:Int)]):=fun t'=>by
     rw[hW,hYl,show(fun t'=>tdV l p t'++(SB.loop .busy lp::(e++[SB.box [.int .i64 (w:Int),.int .i64 (b:Int)]]))) t'=(tdV l p t'++(SB.loop .busy lp::e))++[SB.box [.int .i64 (w:Int),.int .i64 (b:Int)]] by simp]
     rw[List.getElem?_append_right (by rw[List.length_append,List.length_cons];show 6+(e.length+1)≤_;omega),List.length_append,List.length_cons,show 7+e.length - ((tdV l p t').length+(e.length+1))=0 by show 7+e.length - (6+(e.length+1))=0;omega];rfl
    have wset:∀t' t2 E,(W t'++E).set 1 (.box [.int .i64 t2])=W t2++E:=fun t' t2 E=>by rw[hW];rfl
    have wbd:∀t',∀x∈W t',BdS (Y1.length+1) x:=fun t' x hx=>by
     rw[hW]at hx
     rcases List.mem_append.1 hx with hx|hx
     ·exact BdS.mono (tdV_bd _ _ _ x hx) (by omega)
     ·rcases List.mem_cons.1 hx with rfl|hx
      ·exact fun i=>Bd.mono (hlb i) (by omega)
      ·exact BdS.mono (bd_e (n:=6) hbe (zBo _ _) x hx) (by rw[List.length_append];show 6+1+(e.length+1)≤_;omega)
    refine zH [(3,.box 1 0),(4,.box 5 0),(5,.box Y1.length 0)] (W t) (.n3 rfl) (by
     show(((Y1++[SB.box _]).set Y1.length (SB.box _)).set 6 (.loop .busy lp))=_
     rw[yw,hY1,hW,List.append_assoc,List.cons_append];rfl) fun fr=>?_
    refine zG (kQ (zN rfl (q106) (.lrefl _) (zB (zG (zEI [(3,.box 1 0),(4,.box 5 0),(5,.box Y1.length 0),(12,.fn 114 [] [])] (W (([]:List (Nat×Nat)).foldl (tdS l p (w,b)) t)) (.n4 rfl) rfl ?_)))))
    refine zFh (n:=Y1.length+1) (I:=fun M Z=>Z=W (M.foldl (tdS l p (w,b)) t)) (D:=fun _ _=>False) (ex:=.ret) hi gen114E rfl ?_ ?_ ?_ rfl (hWl _) rfl ?_ ?_
    ·have hlpb2:∀(i:Nat),Bd (Y1.length+1+1) (dg (zBj [(3,.box 1 0),(4,.box 5 0),(5,.box Y1.length 0),(12,.fn 114 [] [])] i .junk)):=fun i=>by
      refine zCy (p:=fun u=>Bd (Y1.length+1+1) (dg u)) ?_ (Bd.junk _) i
      intro x hx
      simp only[List.mem_cons,List.not_mem_nil,or_false]at hx
      rcases hx with rfl|rfl|rfl|rfl
      ·exact Bd.box (by omega)
      ·exact Bd.box (by omega)
      ·exact Bd.box (by omega)
      ·exact(zGP _).bd _
     refine⟨?_,?_,?_,?_,?_,?_,?_,fun i=>zAe _,⟨13,rfl,rfl⟩,?_⟩
     ·rintro M st2 ⟨Z,e,_,hZl,_,rfl⟩;simp[hZl]
     ·rintro M st2 ⟨Z,e,hf,_⟩;cases hf
     ·rintro M st2 ⟨Z,e,hZ,hZl,_,rfl⟩;exact⟨Z,[],hZ,hZl,(fun x hx=>by cases hx),zCm hZl⟩
     ·rintro M st2 ⟨Z,e,hf,_⟩;cases hf
     ·rintro M st2 ⟨Z,e,rfl,hZl,_,rfl⟩ x hx
      rw[zCm hZl]at hx
      rcases List.mem_append.1 hx with hx|hx
      ·exact BdS.mono (wbd _ x hx) (by omega)
      ·rcases List.mem_singleton.1 hx with rfl
       exact hlpb2
     ·rintro M st2 ⟨Z,e,hf,_⟩;cases hf
     ·rintro M st2 ⟨Z,e,_,hZl,_,rfl⟩;exact at_n hZl
     ·generalize hlp2:lpOf _ _ _ _=lp2
      rintro is orc hi M ⟨v,c⟩ rr2 st2 hrr2 ⟨Z2,e2,rfl,hZl2,hbe2,rfl⟩
      obtain⟨hv1,hc8⟩:=pre_rg hrr2
      have hsn2:(M++[(v,c)]).foldl (tdS l p (w,b)) t=tdS l p (w,b) (M.foldl (tdS l p (w,b)) t) (v,c):=by rw[List.foldl_append];rfl
      have hur:0≤M.foldl (tdS l p (w,b)) t∧M.foldl (tdS l p (w,b)) t≤8:=tdI_rg M t htr
      unfold WpY
      rw[←congrArg Lp.assign hlp2,←congrArg Lp.body hlp2,←congrArg Lp.ps hlp2,←congrArg Lp.fr hlp2]
      generalize M.foldl (tdS l p (w,b)) t=u at*
      obtain⟨Y3,hY3⟩:∃Y,Y=W u++(SB.loop .ready lp2::e2):=⟨_,rfl⟩
      rw[←hY3]
      refine k_region (zo rfl ze107 ?_)
      refine zt rfl (yj _ _) zAw rfl rfl rfl rfl rfl ?_
      refine zB ?_
      have hYl3:Y3.length=Y1.length+1+1+e2.length:=by rw[hY3,List.length_append,hWl,List.length_cons];omega
      refine⟨rfl,?_,?_⟩
      ·show((Y3++[SB.box _]).set Y3.length (SB.box _))[Y1.length+1]? =_
       rw[yw,hY3];exact wK (at_n (hWl _))
      ·obtain⟨Y4,hY4⟩:∃Y,Y=W u++(SB.loop .busy lp2::(e2++[SB.box [.int .i64 (v:Int),.int .i64 (c:Int)]])):=⟨_,rfl⟩
       have z1:Y4[1]? =some (.box [.int .i64 u]):=by rw[hY4];exact wK (w1 u)
       have z3:Y4[3]? =some (.map (esL l p (preL 18))):=by rw[hY4];exact wK (w3 u)
       have z5:Y4[5]? =some (.box [.mp 3]):=by rw[hY4];exact wK (w5 u)
       have z7:Y4[Y1.length]? =some (SB.box [.int .i64 (w:Int),.int .i64 (b:Int)]):=by rw[hY4];exact wK (w7 u)
       have z9:Y4[Y3.length]? =some (SB.box [.int .i64 (v:Int),.int .i64 (c:Int)]):=by
        rw[hY4,hYl3,show W u++(SB.loop .busy lp2::(e2++[SB.box [.int .i64 (v:Int),.int .i64 (c:Int)]]))=(W u++(SB.loop .busy lp2::e2))++[SB.box [.int .i64 (v:Int),.int .i64 (c:Int)]] by simp]
        rw[List.getElem?_append_right (by rw[List.length_append,hWl,List.length_cons];omega),List.length_append,hWl,List.length_cons,show Y1.length+1+1+e2.length - (Y1.length+1+(e2.length+1))=0 by omega];rfl
       have hset:∀u2,Y4.set 1 (.box [.int .i64 u2])=W u2++(SB.loop .busy lp2::(e2++[SB.box [.int .i64 (v:Int),.int .i64 (c:Int)]])):=fun u2=>by rw[hY4];exact wset _ _ _
       refine zH [(3,.box 1 0),(4,.box 5 0),(5,.box Y1.length 0),(6,.box Y3.length 0)] Y4 (.n4 rfl) (by
        show(((Y3++[SB.box _]).set Y3.length (SB.box _)).set (Y1.length+1) (.loop .busy lp2))=_
        rw[yw,hY3,hY4,List.append_assoc,List.cons_append,set_n (hWl _)];rfl) fun fr=>?_
       have q107:=ret107 (orc:=orc) hi (b:Int) (c:Int)
       have en2:=ne107 w b v c
       have hg1:getK (esL l p (preL 18)) (latU (w,b))=some (sndU l p (w,b)):=by
        have:=esL_get l p 18 (9*w+b) (by omega)
        rw[zGU (by omega)]at this;exact this
       have hg2:getK (esL l p (preL 18)) (latU (v,c))=some (sndU l p (v,c)):=by
        have:=esL_get l p 18 (9*v+c) (by omega)
        rw[zGU (by omega)]at this;exact this
       have htd:tdS l p (w,b) u (v,c)=if(w,b)≠(v,c)∧0<max (b:Int) c∧sndL l p (w,b)=sndL l p (v,c)then min u (max (b:Int) c - 1)else u:=rfl
       rw[show sndU l p (w,b)=.agg (zE (sndL l p (w,b)))from rfl]at hg1
       rw[show sndU l p (v,c)=.agg (zE (sndL l p (v,c)))from rfl]at hg2
       have hT1:(sndL l p (w,b)).length=16:=zAG _
       have hT2:(sndL l p (v,c)).length=16:=zAG _
       generalize sndL l p (w,b)=T1 at*
       generalize sndL l p (v,c)=T2 at*
       have en:=eq16 hT1 hT2
       obtain⟨a0,a1,a2,a3,a4,a5,a6,a7,a8,a9,a10,a11,a12,a13,a14,a15,rfl⟩:=zEF hT1
       obtain⟨b0,b1,b2,b3,b4,b5,b6,b7,b8',b9,b10,b11,b12,b13,b14,b15,rfl⟩:=zEF hT2
       by_cases c1:(w,b)=(v,c)
       ·rw[kG (fun k=>k c1)]at en2
        rw[if_neg (fun k=>k.1 c1)]at htd
        refine zG (kQ (kw rfl wn (zV rfl rfl z7 sh3 rfl ?_)))
        refine kw rfl wn (zV rfl rfl z9 sh3 rfl ?_)
        refine wv (es:=[.int .i64 ↑c]) rfl ty22 ze3 cl3 rfl rfl rfl rfl rfl rfl rfl rfl ?_
        refine zN rfl (q107) (.lcons _ _ _ _ (.refl _) (.lcons _ _ _ _ (.ro _ _ _) (.lrefl _))) ?_
        refine zC rfl (zB (k_seq (yI [.read true,.read true,.plain,.plain,.plain,.plain,.plain,.plain,.read true,.read true,.read true,.read true,.read true,.read true,.plain,.plain] (by kernel_rfl) (by kernel_rfl) (by kernel_rfl) ?_)))
        refine zP rfl (yL rfl rfl z7 zAw rfl (zB rfl)) ?_
        refine zP rfl (yL rfl rfl z9 zAw rfl (zB rfl)) ?_
        refine zD (zCx rfl rfl rfl rfl rfl en2 (zB rfl)) ?_
        refine zD (zA rfl (zB rfl)) (kj rfl (kj rfl (zD (kD rfl (zB rfl)) ?_)))
        refine zD (zA rfl (zB rfl)) (kj rfl (kj rfl (kj rfl (kj rfl (kj rfl (kj rfl (kj rfl (zD (kD rfl (zB rfl)) ?_))))))))
        refine yu ?_
        refine k_cF rfl rfl ?_
        refine zK ?_
        refine⟨by show Y4[Y1.length+1]? =_;rw[hY4];exact at_n (hWl _),.inl ⟨rfl,W u,e2++[SB.box [.int .i64 (v:Int),.int .i64 (c:Int)]],by rw[hsn2,htd],hWl _,bd_e hbe2 (zBo _ _),?_⟩⟩
        show Y4.set (Y1.length+1) (.loop .ready lp2)=_
        rw[hY4,set_n (hWl _)]
       ·rw[kF c1]at en2
        by_cases c2:0<max (b:Int) c
        ·by_cases c3:[a0,a1,a2,a3,a4,a5,a6,a7,a8,a9,a10,a11,a12,a13,a14,a15]=[b0,b1,b2,b3,b4,b5,b6,b7,b8',b9,b10,b11,b12,b13,b14,b15]
         ·rw[kF c3]at en
          rw[if_pos ⟨c1,c2,c3⟩]at htd
          refine zG (kQ (kw rfl wn (zV rfl rfl z7 sh3 rfl ?_)))
          refine kw rfl wn (zV rfl rfl z9 sh3 rfl ?_)
          refine wv (es:=[.int .i64 ↑c]) rfl ty22 ze3 cl3 rfl rfl rfl rfl rfl rfl rfl rfl ?_
          refine zN rfl (q107) (.lcons _ _ _ _ (.refl _) (.lcons _ _ _ _ (.ro _ _ _) (.lrefl _))) ?_
          refine zC rfl (zB (k_seq (yI [.read true,.read true,.plain,.plain,.plain,.plain,.plain,.plain,.read true,.read true,.read true,.read true,.read true,.read true,.plain,.plain] (by kernel_rfl) (by kernel_rfl) (by kernel_rfl) ?_)))
          refine zP rfl (yL rfl rfl z7 zAw rfl (zB rfl)) ?_
          refine zP rfl (yL rfl rfl z9 zAw rfl (zB rfl)) ?_
          refine zD (zCx rfl rfl rfl rfl rfl en2 (zB rfl)) ?_
          refine zD (zA rfl (zB rfl)) (kl rfl (zD (zA rfl (zB rfl)) (kl rfl (zD (o_gtr rfl rfl rfl (zB rfl)) ?_))))
          refine zD (kE rfl (zB rfl)) ?_
          refine zD (zA rfl (zB rfl)) (kn rfl (kF (by omega)) ?_)
          refine zP rfl (zV rfl rfl z5 zFJ rfl (zB rfl)) ?_
          refine kn rfl (kF (by omega)) ?_
          refine zP rfl (yL rfl rfl z7 zAw rfl (zB rfl)) ?_
          refine kn rfl (kF (by omega)) ?_
          refine zGk (zCJ (key:=latU (w,b)) (kt:=107) (el:=108) (r:=.agg (zE [a0,a1,a2,a3,a4,a5,a6,a7,a8,a9,a10,a11,a12,a13,a14,a15])) (ok:=false) rfl ty136 rfl z3 rfl (zBV zCb (w,b)) zv108 rfl (fun m hm=>by cases hm;exact⟨_,rfl⟩) (by rw[hg1];rfl) (zB rfl)) ?_
          refine kn rfl (kF (by omega)) ?_
          refine zP rfl (zV rfl rfl z5 zFJ rfl (zB rfl)) ?_
          refine kn rfl (kF (by omega)) ?_
          refine zP rfl (yL rfl rfl z9 zAw rfl (zB rfl)) ?_
          refine kn rfl (kF (by omega)) ?_
          refine zGk (zCJ (key:=latU (v,c)) (kt:=107) (el:=108) (r:=.agg (zE [b0,b1,b2,b3,b4,b5,b6,b7,b8',b9,b10,b11,b12,b13,b14,b15])) (ok:=false) rfl ty136 rfl z3 rfl (zBV zCb (v,c)) zv108 rfl (fun m hm=>by cases hm;exact⟨_,rfl⟩) (by rw[hg2];rfl) (zB rfl)) ?_
          refine kn rfl (kF (by omega)) ?_
          refine zD (zCx rfl rfl rfl rfl rfl en (zB rfl)) ?_
          refine zD (zj rfl rfl (kF (by omega)) (zB rfl)) ?_
          refine yu ?_
          refine k_cT rfl rfl ?_
          refine k_region (zV rfl rfl z1 sh3 rfl ?_)
          refine zA rfl ?_
          refine zGJ rfl rfl rfl (by unfold I64;omega) (o_min rfl rfl rfl ?_)
          refine yl rfl z1 sh3 rfl rfl ?_
          refine zB ?_
          refine⟨by show(Y4.set 1 (.box [.int .i64 (min u (max (b:Int) c - 1))]))[Y1.length+1]? =_;rw[hset];exact at_n (hWl _),.inl ⟨rfl,W (min u (max (b:Int) c - 1)),e2++[SB.box [.int .i64 (v:Int),.int .i64 (c:Int)]],by rw[hsn2,htd],hWl _,bd_e hbe2 (zBo _ _),?_⟩⟩
          show(Y4.set 1 (.box [.int .i64 (min u (max (b:Int) c - 1))])).set (Y1.length+1) (.loop .ready lp2)=_
          rw[hset,set_n (hWl _)]
         ·rw[kG c3]at en
          rw[if_neg (fun k=>c3 k.2.2)]at htd
          refine zG (kQ (kw rfl wn (zV rfl rfl z7 sh3 rfl ?_)))
          refine kw rfl wn (zV rfl rfl z9 sh3 rfl ?_)
          refine wv (es:=[.int .i64 ↑c]) rfl ty22 ze3 cl3 rfl rfl rfl rfl rfl rfl rfl rfl ?_
          refine zN rfl (q107) (.lcons _ _ _ _ (.refl _) (.lcons _ _ _ _ (.ro _ _ _) (.lrefl _))) ?_
          refine zC rfl (zB (k_seq (yI [.read true,.read true,.plain,.plain,.plain,.plain,.plain,.plain,.read true,.read true,.read true,.read true,.read true,.read true,.plain,.plain] (by kernel_rfl) (by kernel_rfl) (by kernel_rfl) ?_)))
          refine zP rfl (yL rfl rfl z7 zAw rfl (zB rfl)) ?_
          refine zP rfl (yL rfl rfl z9 zAw rfl (zB rfl)) ?_
          refine zD (zCx rfl rfl rfl rfl rfl en2 (zB rfl)) ?_
          refine zD (zA rfl (zB rfl)) (kl rfl (zD (zA rfl (zB rfl)) (kl rfl (zD (o_gtr rfl rfl rfl (zB rfl)) ?_))))
          refine zD (kE rfl (zB rfl)) ?_
          refine zD (zA rfl (zB rfl)) (kn rfl (kF (by omega)) ?_)
          refine zP rfl (zV rfl rfl z5 zFJ rfl (zB rfl)) ?_
          refine kn rfl (kF (by omega)) ?_
          refine zP rfl (yL rfl rfl z7 zAw rfl (zB rfl)) ?_
          refine kn rfl (kF (by omega)) ?_
          refine zGk (zCJ (key:=latU (w,b)) (kt:=107) (el:=108) (r:=.agg (zE [a0,a1,a2,a3,a4,a5,a6,a7,a8,a9,a10,a11,a12,a13,a14,a15])) (ok:=false) rfl ty136 rfl z3 rfl (zBV zCb (w,b)) zv108 rfl (fun m hm=>by cases hm;exact⟨_,rfl⟩) (by rw[hg1];rfl) (zB rfl)) ?_
          refine kn rfl (kF (by omega)) ?_
          refine zP rfl (zV rfl rfl z5 zFJ rfl (zB rfl)) ?_
          refine kn rfl (kF (by omega)) ?_
          refine zP rfl (yL rfl rfl z9 zAw rfl (zB rfl)) ?_
          refine kn rfl (kF (by omega)) ?_
          refine zGk (zCJ (key:=latU (v,c)) (kt:=107) (el:=108) (r:=.agg (zE [b0,b1,b2,b3,b4,b5,b6,b7,b8',b9,b10,b11,b12,b13,b14,b15])) (ok:=false) rfl ty136 rfl z3 rfl (zBV zCb (v,c)) zv108 rfl (fun m hm=>by cases hm;exact⟨_,rfl⟩) (by rw[hg2];rfl) (zB rfl)) ?_
          refine kn rfl (kF (by omega)) ?_
          refine zD (zCx rfl rfl rfl rfl rfl en (zB rfl)) ?_
          refine zD (zj rfl rfl (kF (by omega)) (zB rfl)) ?_
          refine yu ?_
          refine k_cF rfl rfl ?_
          refine zK ?_
          refine⟨by show Y4[Y1.length+1]? =_;rw[hY4];exact at_n (hWl _),.inl ⟨rfl,W u,e2++[SB.box [.int .i64 (v:Int),.int .i64 (c:Int)]],by rw[hsn2,htd],hWl _,bd_e hbe2 (zBo _ _),?_⟩⟩
          show Y4.set (Y1.length+1) (.loop .ready lp2)=_
          rw[hY4,set_n (hWl _)]
        ·rw[if_neg (fun k=>c2 k.2.1)]at htd
         refine zG (kQ (kw rfl wn (zV rfl rfl z7 sh3 rfl ?_)))
         refine kw rfl wn (zV rfl rfl z9 sh3 rfl ?_)
         refine wv (es:=[.int .i64 ↑c]) rfl ty22 ze3 cl3 rfl rfl rfl rfl rfl rfl rfl rfl ?_
         refine zN rfl (q107) (.lcons _ _ _ _ (.refl _) (.lcons _ _ _ _ (.ro _ _ _) (.lrefl _))) ?_
         refine zC rfl (zB (k_seq (yI [.read true,.read true,.plain,.plain,.plain,.plain,.plain,.plain,.read true,.read true,.read true,.read true,.read true,.read true,.plain,.plain] (by kernel_rfl) (by kernel_rfl) (by kernel_rfl) ?_)))
         refine zP rfl (yL rfl rfl z7 zAw rfl (zB rfl)) ?_
         refine zP rfl (yL rfl rfl z9 zAw rfl (zB rfl)) ?_
         refine zD (zCx rfl rfl rfl rfl rfl en2 (zB rfl)) ?_
         refine zD (zA rfl (zB rfl)) (kl rfl (zD (zA rfl (zB rfl)) (kl rfl (zD (o_gtr rfl rfl rfl (zB rfl)) ?_))))
         refine zD (kE rfl (zB rfl)) ?_
         refine zD (zA rfl (zB rfl)) (km rfl (kG (by omega)) ?_)
         refine km rfl (kG (by omega)) ?_
         refine km rfl (kG (by omega)) ?_
         refine km rfl (kG (by omega)) ?_
         refine km rfl (kG (by omega)) ?_
         refine km rfl (kG (by omega)) ?_
         refine km rfl (kG (by omega)) ?_
         refine zD (zx rfl rfl (kG (by omega)) (zB rfl)) ?_
         refine yu ?_
         refine k_cF rfl rfl ?_
         refine zK ?_
         refine⟨by show Y4[Y1.length+1]? =_;rw[hY4];exact at_n (hWl _),.inl ⟨rfl,W u,e2++[SB.box [.int .i64 (v:Int),.int .i64 (c:Int)]],by rw[hsn2,htd],hWl _,bd_e hbe2 (zBo _ _),?_⟩⟩
         show Y4.set (Y1.length+1) (.loop .ready lp2)=_
         rw[hY4,set_n (hWl _)]
    ·rintro M Z rfl _;exact wbd _
    ·rintro M Z hf;cases hf
    ·rintro Z rfl _
     refine⟨by show(W _)[6]? =_;rw[hW];rfl,.inl ⟨rfl,tdV l p (tdO l p (L++[(w,b)])),e++[SB.box [.int .i64 (w:Int),.int .i64 (b:Int)]],rfl,rfl,bd_e hbe (zBo _ _),?_⟩⟩
     show(W ((preL 18).foldl (tdS l p (w,b)) t)).set 6 (.loop .ready lp)=_
     rw[hW,hsno];rfl
    ·rintro M r Z _ hf;cases hf
 ·rintro L Z rfl _;exact tdV_bd _ _ _
 ·rintro L Z hf;cases hf
 ·rintro Z rfl _
  have ho:tdO l p (preL 18)=tdO l p (preL 18):=rfl
  show Wp Tryd.prog is orc _ _ _
  refine kQ (kA sh3 rfl (zC rfl (zB (zY ?_))))
  refine⟨.inr rfl,_,.cons _ _ _ _ (.tmp 2) .nil,?_⟩
  exact .refl _
  done
 ·rintro L r Z _ hf;cases hf
end Go.Proofs.YthhbfbmfhldbaaaDoor.locks
