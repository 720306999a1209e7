import Derived.Test.YthhbfbmfhldbaaaDoorVamT14
set_option linter.unusedVariables false
set_option linter.unusedSimpArgs false
set_option linter.constructorNameAsVariable false
namespace Go.Proofs.YthhbfbmfhldbaaaDoor.locks
open Vam
variable {is:FuncId→Bool}{orc:Known}{l:Ln}
theorem zEp:shOf Tryd.prog 136=.one:=by kernel_rfl
theorem ze136:yM Tryd.prog 136=some ((.cons .nilm .nil):V):=by kernel_rfl
noncomputable def b105:Code:=(Tryd.f105.body).getD .skip
theorem body105:bodyOf Tryd.prog 105=some (14,b105,[.tmp 2]):=by kernel_rfl
theorem pure105:pureFn Tryd.prog 105=false:=by kernel_rfl
theorem ty136:tyOf Tryd.prog 136=.map 107 108:=by kernel_rfl
def sndU(l:Ln)(p:List Int)(x:Nat×Nat):U:=.agg (zE (i16 (hrN l p x.1 x.2 p.length)))
noncomputable def esL(l:Ln)(p:List Int)(L:List (Nat×Nat)):List (U×U):=L.foldl (fun es x=>setK es (latU x) (sndU l p x)) []
theorem esL_snoc(l:Ln)(p:List Int)(L:List (Nat×Nat))(x:Nat×Nat):esL l p (L++[x])=setK (esL l p L) (latU x) (sndU l p x):=by
 unfold esL;rw[List.foldl_append];rfl
theorem esL_mem{p:List Int}:∀(L:List (Nat×Nat)) (es:List (U×U)),(∀q∈es,∃x,q=(latU x,sndU l p x))→∀q∈L.foldl (fun es x=>setK es (latU x) (sndU l p x)) es,∃x,q=(latU x,sndU l p x):=by
 intro L
 induction L with
 |nil=>intro es h q hq;exact h q hq
 |cons x L ih=>
  intro es h q hq
  refine ih _ (fun y hy=>?_) q hq
  rcases mem_setK hy with rfl|hy
  ·exact⟨x,rfl⟩
  ·exact h y hy
theorem zCI{p:List Int}{L:List (Nat×Nat)}:∀q∈esL l p L,∃x,q=(latU x,sndU l p x):=esL_mem L [] fun q hq=>by cases hq
theorem eq107(a c x y:Int):eqT Tryd.prog 107 (valK (zDA a c)) (valK (zDA x y))=some ((a==x)&&(c==y)):=by
 have h:eqT Tryd.prog 107 (valK (zDA a c)) (valK (zDA x y))=Vam.cond (ieq a x) (Vam.cond (ieq c y) (some true) (some false)) (some false):=by kernel_rfl
 rw[h,zAU,zAU]
 cases a==x<;>cases c==y<;>rfl
theorem same107(a c:Int):sameV (valK (zDA a c)) (valK (zDA a c))=true:=by
 have h:sameV (valK (zDA a c)) (valK (zDA a c))=Vam.cond (ieq a a) (Vam.cond (ieq c c) true false) false:=by kernel_rfl
 rw[h,zAU,zAU,show(a==a)=true by simp,show(c==c)=true by simp];rfl
theorem zBC{p:List Int}{es:List (U×U)}(h:∀q∈es,∃x,q=(latU x,sndU l p x))(x:Nat×Nat):KeyOk Tryd.prog 107 (latU x) es:=by
 refine⟨rfl,?_,same107 _ _,fun q hq=>?_⟩
 ·kernel_rfl
 ·obtain⟨y,rfl⟩:=h q hq
  refine⟨rfl,_,eq107 _ _ _ _,?_⟩
  simp only[Bool.and_eq_true,beq_iff_eq,U.agg.injEq,List.cons.injEq,U.int.injEq,true_and,and_true]
  omega
theorem bd_es{p:List Int}{es:List (U×U)}(h:∀q∈es,∃x,q=(latU x,sndU l p x))(n:Nat):BdS n (.map es):=fun q hq=>by
 obtain⟨x,rfl⟩:=h q hq
 refine⟨Bd.agg fun u hu=>?_,Bd.agg fun u hu=>?_⟩
 ·simp only[List.mem_cons,List.not_mem_nil,or_false]at hu
  rcases hu with rfl|rfl<;>exact Bd.int _ _ _
 ·obtain⟨z,_,rfl⟩:=List.mem_map.1 hu
  exact Bd.int _ _ _
theorem zBU(a b:Int)(m:Nat):BdS m (.box [.int .i64 a,.int .i64 b]):=fun c hc=>by
 simp only[List.mem_cons,List.not_mem_nil,or_false]at hc
 rcases hc with rfl|rfl<;>exact Bd.int _ _ _
abbrev zCN(l:Ln)(p:List Int):List U:=[.lst .ro 1 (zE l.slots),.int .i64 l.left,.int .i64 l.right,.int .i64 l.run,.lst .ro 1 (zE p)]
noncomputable def wyV(l:Ln)(p:List Int)(st:List SB)(es:List (U×U)):List SB:=st++[.box (zCN l p),.map es,.box [.mp (st.length+1)]]
theorem zBL(l:Ln)(p:List Int)(st:List SB)(es:List (U×U)):(wyV l p st es).length=st.length+3:=by simp[wyV]
theorem wyV_at(l:Ln)(p:List Int)(st:List SB)(es:List (U×U)):(wyV l p st es)[st.length]? =some (.box (zCN l p))∧(wyV l p st es)[st.length+1]? =some (.map es)∧(wyV l p st es)[st.length+2]? =some (.box [.mp (st.length+1)]):=by
 unfold wyV
 exact⟨by simp,at_off rfl,at_off rfl⟩
theorem wyV_set(l:Ln)(p:List Int)(st:List SB)(es es2:List (U×U)):(wyV l p st es).set (st.length+1) (.map es2)=wyV l p st es2:=by
 unfold wyV;rw[set_off];rfl
theorem wyV_bd{p:List Int}{st:List SB}(hb:∀x∈st,BdS st.length x){es:List (U×U)}(h:∀q∈es,∃x,q=(latU x,sndU l p x)):∀x∈wyV l p st es,BdS (st.length+3) x:=fun x hx=>by
 rcases List.mem_append.1 hx with hx|hx
 ·exact BdS.mono (hb x hx) (by omega)
 ·simp only[List.mem_cons,List.not_mem_nil,or_false]at hx
  rcases hx with rfl|rfl|rfl
  ·intro c hc
   simp only[List.mem_cons,List.not_mem_nil,or_false]at hc
   rcases hc with rfl|rfl|rfl|rfl|rfl
   ·exact(ya 6 .ro (fun h=>by cases h) 1 _).nb.bd _
   ·exact Bd.int _ _ _
   ·exact Bd.int _ _ _
   ·exact Bd.int _ _ _
   ·exact(ya 6 .ro (fun h=>by cases h) 1 _).nb.bd _
  ·exact bd_es h _
  ·intro c hc
   rcases List.mem_singleton.1 hc with rfl
   exact Bd.mp (by omega)
theorem zDm{p:U→Prop}{l:List (Nat×U)}{d:U}(h:∀x∈l,p x.2)(hd:p d)(i:Nat):p (zBR l i d):=by
 induction l with
 |nil=>exact hd
 |cons x l ih=>
  obtain⟨j,u⟩:=x
  show p (Vam.cond (Nat.beq i j) u (zBR l i d))
  cases Nat.beq i j with
  |true=>exact h _ List.mem_cons_self
  |false=>exact ih fun y hy=>h y (List.mem_cons_of_mem _ hy)
theorem zCQ{Z e:List SB}{y:SB}{n:Nat}(h:Z.length=n):(Z++(y::e)).take (n+1)=Z++[y]:=by
 rw[show Z++(y::e)=(Z++[y])++e by simp,zDX (by simp[h])]
theorem at_n{Z e:List SB}{y:SB}{n:Nat}(h:Z.length=n):(Z++(y::e))[n]? =some y:=by rw[←h];simp
theorem set_n{Z e:List SB}{y x:SB}{n:Nat}(h:Z.length=n):(Z++(y::e)).set n x=Z++(x::e):=by
 rw[List.set_append_right _ _ (by omega),h,Nat.sub_self];rfl
set_option maxHeartbeats 16000000 in
theorem wpc105(hi:Off is)(h:VL l){p:List Int}(hd:divB l p=true)(st:List SB)(hb:∀x∈st,BdS st.length x):
  WpC Tryd.prog is orc 105 [zCM l p] st fun u st'=>u=.mp (st.length+1)∧st'=wyV l p st (esL l p (preL 18)):=by
 refine wpc_of body105 pure105 rfl rfl ?_
 have q106:=ret106 (orc:=orc) hi
 have he0:esL l p (preL 0)=[]:=by simp[esL,preL]
 refine kQ (yO rfl rfl (zC rfl (zB ?_)))
 refine zH [(1,U.box (List.length st) 0)] (st++[SB.box [.lst .ro 1 (zE (Ln.slots l)),.int .i64 (Ln.left l),.int .i64 (Ln.right l),.int .i64 (Ln.run l),.lst .ro 1 (zE p)]]) (.n1 rfl) rfl fun fr=>?_
 refine kQ (o_makeMap rfl ty136 ?_)
 refine yP rfl ze136 ?_
 refine wL rfl (zDH _ _) zEp rfl rfl ?_
 refine zB ?_
 refine zH [(1,U.box (List.length st) 0),(3,U.box (List.length (st++[SB.box [.lst .ro 1 (zE (Ln.slots l)),.int .i64 (Ln.left l),.int .i64 (Ln.right l),.int .i64 (Ln.run l),.lst .ro 1 (zE p)]]++[SB.map []])) 0)] (st++[SB.box [.lst .ro 1 (zE (Ln.slots l)),.int .i64 (Ln.left l),.int .i64 (Ln.right l),.int .i64 (Ln.run l),.lst .ro 1 (zE p)]]++[SB.map []]++[SB.box [U.mp (List.length (st++[SB.box [.lst .ro 1 (zE (Ln.slots l)),.int .i64 (Ln.left l),.int .i64 (Ln.right l),.int .i64 (Ln.run l),.lst .ro 1 (zE p)]]))]]) (.n2 rfl) (zBl _ _ _) fun fr=>?_
 refine k_seq (kQ (zN rfl (q106) (.lrefl _) (zB (zI ?_))))
 refine zFN [(1,.box st.length 0),(3,.box (st.length+2) 0),(6,.fn 114 [] [])] (wyV l p st (esL l p (preL 0))) (.cons rfl (.cons (by show U.box _ 0=_;simp) (.n1 rfl))) (by rw[he0];show((st++[_])++[_])++[SB.box [.mp (st++[SB.box _]).length]]=_;unfold wyV;simp) ?_
 refine zFM (n:=st.length+3) (I:=fun L Z=>Z=wyV l p st (esL l p L)) (D:=fun _ _=>False) (ex:=.ret) hi gen114E rfl ?_ ?_ ?_ rfl (zBL _ _ _ _) rfl ?_ ?_
 ·have hlpb:∀(i:Nat),Bd (st.length+3+1) (dg (zBR [(1,.box st.length 0),(3,.box (st.length+2) 0),(6,.fn 114 [] [])] i .junk)):=fun i=>by
   refine zDm (p:=fun u=>Bd (st.length+3+1) (dg u)) ?_ (Bd.junk _) i
   intro x hx
   simp only[List.mem_cons,List.not_mem_nil,or_false]at hx
   rcases hx with rfl|rfl|rfl
   ·exact Bd.box (by omega)
   ·exact Bd.box (by omega)
   ·exact(zGg _).bd _
  refine⟨?_,?_,?_,?_,?_,?_,?_,fun i=>zAn _,⟨7,rfl,rfl⟩,?_⟩
  ·rintro L st' ⟨Z,e,_,hZl,_,rfl⟩;simp[hZl]
  ·rintro L st' ⟨Z,e,hf,_⟩;cases hf
  ·rintro L st' ⟨Z,e,hZ,hZl,_,rfl⟩;exact⟨Z,[],hZ,hZl,(fun x hx=>by cases hx),zCQ hZl⟩
  ·rintro L st' ⟨Z,e,hf,_⟩;cases hf
  ·rintro L st' ⟨Z,e,rfl,hZl,hbe,rfl⟩ x hx
   rw[zCQ hZl]at hx
   rcases List.mem_append.1 hx with hx|hx
   ·exact BdS.mono (wyV_bd hb zCI x hx) (by omega)
   ·rcases List.mem_singleton.1 hx with rfl
    exact hlpb
  ·rintro L st' ⟨Z,e,hf,_⟩;cases hf
  ·rintro L st' ⟨Z,e,_,hZl,_,rfl⟩;exact at_n hZl
  ·generalize hlp:lpOf _ _ _ _=lp
   rintro is orc hi L ⟨w,b⟩ rr st' hrr ⟨Z,e,rfl,hZl,hbe,rfl⟩
   have hb8:b≤8:=by
    have hm:(w,b)∈preL 18:=by rw[hrr];simp
    obtain⟨k,_,e⟩:=List.mem_map.1 hm
    unfold lat at e
    cases e
    omega
   have q83:=ret83 (orc:=orc) hi h hd (who:=(w:Int)) (b:=b) hb8
   have hs83:RetP Tryd.prog is orc 83 [zCM l p,zDA w b] (sndU l p (w,b)):=q83
   have es2:=esL_snoc l p L (w,b)
   unfold WpY
   rw[←congrArg Lp.assign hlp,←congrArg Lp.body hlp,←congrArg Lp.ps hlp,←congrArg Lp.fr hlp]
   obtain⟨Y1,hY1⟩:∃Y,Y=wyV l p st (esL l p L)++(SB.loop .ready lp::e):=⟨_,rfl⟩
   rw[←hY1]
   refine k_region (yP rfl ze107 ?_)
   refine yX rfl (zDH _ _) zAg rfl rfl rfl rfl rfl ?_
   refine zB ?_
   have hYl:Y1.length=st.length+3+1+e.length:=by rw[hY1,List.length_append,zBL,List.length_cons];omega
   refine⟨rfl,?_,?_⟩
   ·show((Y1++[SB.box _]).set Y1.length (SB.box _))[st.length+3]? =_
    rw[zBl,hY1];exact zEA (at_n (zBL _ _ _ _))
   ·obtain⟨Y2,hY2⟩:∃Y,Y=wyV l p st (esL l p L)++(SB.loop .busy lp::(e++[SB.box [.int .i64 (w:Int),.int .i64 (b:Int)]])):=⟨_,rfl⟩
    have y0:Y2[st.length]? =some (.box (zCN l p)):=by rw[hY2];exact zEA (wyV_at _ _ _ _).1
    have y1:Y2[st.length+1]? =some (.map (esL l p L)):=by rw[hY2];exact zEA (wyV_at _ _ _ _).2.1
    have y2:Y2[st.length+2]? =some (.box [.mp (st.length+1)]):=by rw[hY2];exact zEA (wyV_at _ _ _ _).2.2
    have y4:Y2[Y1.length]? =some (.box [.int .i64 (w:Int),.int .i64 (b:Int)]):=by
     rw[hY2,hYl,show wyV l p st (esL l p L)++(SB.loop .busy lp::(e++[SB.box [.int .i64 (w:Int),.int .i64 (b:Int)]]))=(wyV l p st (esL l p L)++(SB.loop .busy lp::e))++[SB.box [.int .i64 (w:Int),.int .i64 (b:Int)]] by simp]
     rw[List.getElem?_append_right (by rw[List.length_append,zBL,List.length_cons];omega),List.length_append,zBL,List.length_cons,show st.length+3+1+e.length - (st.length+3+(e.length+1))=0 by omega];rfl
    have hset:∀(lq:Lq) (E:List SB),(wyV l p st (esL l p L)++(SB.loop lq lp::E)).set (st.length+1) (.map (setK (esL l p L) (latU (w,b)) (sndU l p (w,b))))=wyV l p st (esL l p (L++[(w,b)]))++(SB.loop lq lp::E):=fun lq E=>by
     rw[List.set_append_left _ _ (by rw[zBL];omega),wyV_set,es2]
    have hin:∀q∈esL l p L,∃x,q=(latU x,sndU l p x):=zCI
    refine zH [(1,.box st.length 0),(3,.box (st.length+2) 0),(4,.box Y1.length 0)] Y2 (.n3 rfl) (by
     show(((Y1++[SB.box _]).set Y1.length (SB.box _)).set (st.length+3) (.loop .busy lp))=_
     rw[zBl,hY1,hY2,List.append_assoc,List.cons_append,set_n (zBL _ _ _ _)];rfl) fun fr=>?_
    have hsn:sndU l p (w,b)=.agg (zE (i16 (hrN l p w b p.length))):=rfl
    rw[hsn]at hset
    generalize i16 (hrN l p w b p.length)=S at*
    refine zI (yR [.read true,.read true,.read true,.read true,.read false,.plain] (by kernel_rfl) (by kernel_rfl) (by kernel_rfl) ?_)
    refine zP rfl (zo rfl rfl y2 zEp rfl (zB rfl)) ?_
    refine zP rfl (yT rfl rfl y4 zAg rfl (zB rfl)) ?_
    refine zP rfl (yT rfl rfl y0 sh75 rfl (zB rfl)) ?_
    refine zP rfl (yT rfl rfl y4 zAg rfl (zB rfl)) ?_
    refine d_callR rfl (q83) (zGC S) (.lrefl _) ?_
    refine zD (o_mapUpdate rfl ty136 rfl y1 rfl (zBC hin (w,b)) (zB rfl)) ?_
    refine wN ?_
    refine⟨?_,.inl ⟨rfl,wyV l p st (esL l p (L++[(w,b)])),e++[SB.box [.int .i64 (w:Int),.int .i64 (b:Int)]],rfl,zBL _ _ _ _,bd_e hbe (zBU _ _),?_⟩⟩
    ·show(Y2.set (st.length+1) (.map (setK (esL l p L) (latU (w,b)) (.agg (zE S)))))[st.length+3]? =_
     rw[hY2,hset];exact at_n (zBL _ _ _ _)
    ·show(Y2.set (st.length+1) (.map (setK (esL l p L) (latU (w,b)) (.agg (zE S))))).set (st.length+3) (.loop .ready lp)=_
     rw[hY2,hset,set_n (zBL _ _ _ _)]
 ·rintro L Z rfl _;exact wyV_bd hb zCI
 ·rintro L Z hf;cases hf
 ·rintro Z rfl _
  have y2:=(wyV_at l p st (esL l p (preL 18))).2.2
  show Wp Tryd.prog is orc _ _ _
  refine kQ (zo rfl rfl y2 zEp rfl ?_)
  refine zC rfl (zB (zc ?_))
  refine⟨.inr rfl,_,.cons _ _ _ _ (.tmp 2) .nil,?_⟩
  exact⟨_,.refl _,rfl,rfl⟩
 ·rintro L r Z _ hf;cases hf
end Go.Proofs.YthhbfbmfhldbaaaDoor.locks
