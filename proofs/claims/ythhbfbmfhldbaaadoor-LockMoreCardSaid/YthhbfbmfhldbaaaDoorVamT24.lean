import Derived.Test.YthhbfbmfhldbaaaDoorVamT23
set_option linter.unusedVariables false
set_option linter.unusedSimpArgs false
set_option linter.constructorNameAsVariable false
namespace Go.Proofs.YthhbfbmfhldbaaaDoor.locks
open Vam
section
variable {is:FuncId→Bool}{orc:Known}{l:Ln}
noncomputable def b101:Code:=(Tryd.f101.body).getD .skip
theorem body101:bodyOf Tryd.prog 101=some (4,b101,[.tmp 2]):=by kernel_rfl
theorem pure101:pureFn Tryd.prog 101=false:=by kernel_rfl
theorem sh145:shOf Tryd.prog 145=.one:=by kernel_rfl
noncomputable def b113:Code:=(Tryd.f113.body).getD .skip
theorem body113:bodyOf Tryd.prog 113=some (28,b113,[]):=by kernel_rfl
theorem pure113:pureFn Tryd.prog 113=false:=by kernel_rfl
theorem fk_bols(S:List Bool):flatK (.agg (zL S))=true:=by
 show(zL S).all flatC=true
 rw[List.all_eq_true]
 intro c hc
 obtain⟨b,_,rfl⟩:=List.mem_map.1 hc
 rfl
abbrev witC(l:Ln)(w:Int)(H:List Int):List U:=[.lst .ro 1 (zD l.slots),.int .i64 l.left,.int .i64 l.right,.int .i64 l.run,.int .i64 w,.lst .ro 1 (zD H)]
def fitB(w:Int)(H:List Int)(p:List Int):Bool:= !(b16 (woF (onF H) (plF p w))).any id
def losF(w:Int)(H:List Int)(p:List Int):Nat→Bool:=woF (plF p w) (onF H)
abbrev losE(w:Int)(H:List Int)(p:List Int):U:=.agg (zL (b16 (losF w H p)))
theorem wpc101(l:Ln)(w:Int)(H:List Int)(st:List SB):WpC Tryd.prog is orc 101 [witU l w H] st fun u st'=>u=.fn 113 [] [.box st.length 0]∧st'=st++[.box (witC l w H)]:=by
 refine zEH body101 pure101 rfl rfl ?_
 refine kQ (zx rfl rfl (zB rfl (zC ?_)))
 refine zI [(1,U.box (List.length st) 0)] (st++[SB.box [.lst .ro 1 (zD (Ln.slots l)),.int .i64 (Ln.left l),.int .i64 (Ln.right l),.int .i64 (Ln.run l),.int .i64 w,.lst .ro 1 (zD H)]]) (.n1 rfl) rfl fun fr=>?_
 refine kQ ?_
 refine zBs rfl ?_
 refine zB rfl (zC (zg ?_))
 refine⟨.inr rfl,_,.cons _ _ _ _ (.tmp 2) .nil,?_⟩
 exact⟨_,.refl _,rfl,rfl⟩
def fitL(l:Ln)(w:Int)(H:List Int):List (List Int):=(splL l).filter (fitB w H)
abbrev T3(l:Ln)(A:Nat)(H:List Int):List SB:=[.box [.yld A],.box (zL (b16 (onF H))),.box l.cs]
set_option maxHeartbeats 16000000 in
theorem gen113(h:VL l){w:Int}(hw:w=0∨w=1){H:List Int}(hH:∀x∈H,0≤x∧x<16)(hHl:H.length≤4096)(ci:Nat):GenF (losE w H) 113 [.box ci 0] [(ci,.box (witC l w H))] (fitL l w H):=by
 intro is orc hi N A lp0 I D hc hcap Z0 hI0
 have hX:=hc.len [] Z0 hI0
 have h0:Z0[ci]? =some (.box (witC l w H)):=hcap _ List.mem_cons_self [] Z0 hI0
 have q100:=ret100 (orc:=orc) hi hH hHl
 have hl16:∀f,(zL (b16 f)).length=16:=fun f=>by unfold zL;rw[List.length_map,yG]
 have hd16:∀f,(zL (b16 f)).map dg=zL (b16 f):=fun f=>zBo _
 have ho16:∀f,(zL (b16 f)).all oneU=true:=fun f=>zBn _
 have h01:∀E,(Z0++E)[ci]? =some (.box (witC l w H)):=fun E=>yp h0
 have h02:=h01 [.box [.yld A]]
 refine wpc_cut body113 pure113 rfl rfl ?_
 have hlH:=hl16 (onF H)
 have hdH:=hd16 (onF H)
 have hoH:=ho16 (onF H)
 obtain⟨BH,hBH⟩:∃BH,BH=zL (b16 (onF H)):=⟨_,rfl⟩
 rw[←hBH]at q100 hlH hdH hoH
 refine kQ (zx rfl rfl (zC ?_))
 refine zI [(1,U.box ci 0),(2,U.box (List.length Z0) 0)] (Z0++[SB.box [U.yld A]]) (.n2 rfl) rfl fun fr=>?_
 refine kQ (kw rfl fld92_2 (zf rfl rfl h02 sh22 rfl ?_))
 refine zO rfl (q100) (.lrefl _) (zo rfl ze83 ?_)
 refine wh rfl (ya _ _) sh83 rfl hlH rfl rfl hoH hdH ?_
 refine zC ?_
 refine zI [(1,U.box ci 0),(2,U.box (List.length Z0) 0),(3,U.box (List.length (Z0++[SB.box [U.yld A]])) 0)] (Z0++[SB.box [U.yld A]]++[SB.box BH]) (.n3 rfl) (wX _ _ _) fun fr=>?_
 have h03:((Z0++[SB.box [U.yld A]])++[SB.box BH])[ci]? =some (.box (witC l w H)):=yp h02
 have hw95:=wpc95 (is:=is) (orc:=orc) l ((Z0++[SB.box [U.yld A]])++[SB.box BH])
 refine kQ (kw rfl fld92_0 (zBG rfl rfl h03 sh73 rfl ?_))
 refine zDm rfl hw95 (.lrefl _) (fun u st1 hM=>?_)
 refine zC (zM ?_)
 obtain⟨rfl,rfl⟩:=hM
 have hT:((Z0++[SB.box [U.yld A]])++[SB.box BH])++[SB.box l.cs]=Z0++T3 l A H:=by rw[hBH];simp
 have hl1:(Z0++[SB.box [U.yld A]]).length=N+1:=by simp[hX]
 have hl2:((Z0++[SB.box [U.yld A]])++[SB.box BH]).length=N+2:=by simp[hX]
 refine k_forget [(1,.box ci 0),(2,.box N 0),(3,.box (N+1) 0),(11,.fn 110 [] [.box (N+2) 0])] (Z0++T3 l A H) (.cons rfl (.cons (by show U.box Z0.length 0=_;rw[hX]) (.cons (by show U.box (Z0++[SB.box [U.yld A]]).length 0=_;rw[hl1]) (.cons (by show U.fn 110 [] [.box ((Z0++[SB.box [U.yld A]])++[SB.box BH]).length 0]=_;rw[hl2]) (.nil rfl))))) hT ?_
 have hTl:∀Z:List SB,Z.length=N→(Z++T3 l A H).length=N+3:=fun Z hZ=>by rw[List.length_append,hZ];rfl
 have hbT:A<N→∀Z:List SB,(∀x∈Z,BdS N x)→∀x∈Z++T3 l A H,BdS (N+3) x:=fun hAN Z hZ x hx=>by
  rcases List.mem_append.1 hx with hx|hx
  ·exact BdS.mono (hZ x hx) (by omega)
  ·simp only[List.mem_cons,List.not_mem_nil,or_false]at hx
   rcases hx with rfl|rfl|rfl
   ·intro c hc;rcases List.mem_singleton.1 hc with rfl;exact Bd.yld (by omega)
   ·exact bd_bols _ _
   ·exact bd_cs l _
 have hAN:=hc.lt hI0
 have hcN:ci<N:=by have:=(List.getElem?_eq_some_iff.1 h0).1;omega
 refine k_rangeF (n:=N+3) (I:=fun L Z'=>∃Z,I (L.filter (fitB w H)) Z∧Z'=Z++T3 l A H) (D:=fun L Z'=>∃Z,D (L.filter (fitB w H)) Z∧Z'=Z++T3 l A H) (ex:=.ret) hi (gen110 h (N+2)) rfl ?_ (fun L Z' ⟨Z,hZ,e⟩=>by rw[e];exact hTl Z (hc.len _ _ hZ)) (fun L Z' ⟨Z,hZ,e⟩=>by rw[e];exact hTl Z (hc.lenD _ _ hZ)) (fun c hcc L Z' ⟨Z,hZ,e⟩=>by rcases List.mem_singleton.1 hcc with rfl;rw[e];exact zEV (hc.len _ _ hZ) rfl) (fun L Z' ⟨Z,hZ,e⟩=>by rw[e];exact hbT hAN Z (hc.bd _ _ hZ)) (fun L Z' ⟨Z,hZ,e⟩=>by rw[e];exact hbT hAN Z (hc.bdD _ _ hZ)) rfl ⟨Z0,hI0,rfl⟩ ?_ ?_
 ·have hlpb:∀(i:Nat),Bd (N+3+1) (dg (zCA [(1,.box ci 0),(2,.box N 0),(3,.box (N+1) 0),(11,.fn 110 [] [.box (N+2) 0])] i .junk)):=fun i=>by
   refine zFZ (p:=fun u=>Bd (N+3+1) (dg u)) ?_ (Bd.junk _) i
   intro x hx
   simp only[List.mem_cons,List.not_mem_nil,or_false]at hx
   rcases hx with rfl|rfl|rfl|rfl
   ·exact Bd.box (by omega)
   ·exact Bd.box (by omega)
   ·exact Bd.box (by omega)
   ·exact Bd.fn (fun u hu=>by cases hu) fun u hu=>by rcases List.mem_singleton.1 hu with rfl;exact Bd.box (by omega)
  refine⟨?_,?_,?_,?_,?_,fun i=>zBB _,⟨12,rfl,rfl⟩,?_⟩
  ·rintro L Z' ⟨Y,⟨Z,hZ,rfl⟩,rfl⟩;rw[List.length_append,hTl Z (hc.len _ _ hZ)];rfl
  ·rintro L Z' ⟨Y,⟨Z,hZ,rfl⟩,rfl⟩;rw[List.length_append,hTl Z (hc.lenD _ _ hZ)];rfl
  ·rintro L Z' ⟨Y,⟨Z,hZ,rfl⟩,rfl⟩ x hx
   rcases List.mem_append.1 hx with hx|hx
   ·exact BdS.mono (hbT hAN Z (hc.bd _ _ hZ) x hx) (by omega)
   ·rcases List.mem_singleton.1 hx with rfl;exact hlpb
  ·rintro L Z' ⟨Y,⟨Z,hZ,rfl⟩,rfl⟩ x hx
   rcases List.mem_append.1 hx with hx|hx
   ·exact BdS.mono (hbT hAN Z (hc.bdD _ _ hZ) x hx) (by omega)
   ·rcases List.mem_singleton.1 hx with rfl;exact hlpb
  ·rintro L Z' ⟨Y,⟨Z,hZ,rfl⟩,rfl⟩;rw[←hTl Z (hc.len _ _ hZ)];exact ya _ _
  ·clear hlpb
   generalize hlp:lpOf _ _ _ _=lp
   rintro is orc hi L q r Z' e hels ⟨Y,⟨Z,hI,rfl⟩,rfl⟩
   have hZ:=hc.len _ _ hI
   have hcZ:∀E,(Z++E)[ci]? =some (.box (witC l w H)):=fun E=>yp (hcap _ List.mem_cons_self _ Z hI)
   obtain⟨pp,hp1,hp2⟩:=hc.ps
   have hfi:(L++[q]).filter (fitB w H)=L.filter (fitB w H)++if fitB w H q=true then [q]else []:=by
    rw[List.filter_append]
    cases c:fitB w H q with
    |true=>rw[List.filter_cons_of_pos c];rfl
    |false=>rw[List.filter_cons_of_neg (by rw[c];decide)];rfl
   have hrun:=fun(hq:fitB w H q=true) E=>hc.run is orc hi (L.filter (fitB w H)) q (r.filter (fitB w H)) Z E (by unfold fitL;rw[hels,List.filter_append,List.filter_cons_of_pos hq]) hI
   have hl:=spB_len q
   have hone:=zBn (spB q)
   have hBd:=zBo (spB q)
   have hprt:∃l1 l2,zL (spB q)=l1++(zL (b16 (plF q w))++l2)∧l1.length=0+w.toNat*16:=by
    rcases hw with rfl|rfl
    ·exact⟨[],zL (b16 (plF q 1)),by show(b16 _++b16 _).map _=_;rw[List.map_append];rfl,rfl⟩
    ·exact⟨zL (b16 (plF q 0)),[],by show(b16 _++b16 _).map _=_;rw[List.map_append,List.append_nil],hl16 _⟩
   obtain⟨l1,l2,hpe,hpl⟩:=hprt
   have q67a:=ret67 (orc:=orc) hi (onF H) (plF q w)
   have q67b:RetP Tryd.prog is orc 67 [.agg (zL (b16 (plF q w))),.agg (zL (b16 (onF H)))] (losE w H q):=ret67 hi (plF q w) (onF H)
   have en:=ne16 (yG (woF (onF H) (plF q w)))
   have fk:=fk_bols (b16 (woF (onF H) (plF q w)))
   have fLE:FlatU (losE w H q):=flat_bols (b16 (losF w H q))
   have hfd:fitB w H q= !(b16 (woF (onF H) (plF q w))).any id:=rfl
   have hlW:=hl16 (plF q w)
   have hdW:=hd16 (plF q w)
   have hoW:=ho16 (plF q w)
   have hlH:=hl16 (onF H)
   unfold spE
   generalize (b16 (woF (onF H) (plF q w))).any id=z at*
   generalize zL (b16 (woF (onF H) (plF q w)))=C1 at*
   generalize zL (b16 (plF q w))=BW at*
   generalize losE w H q=LE at*
   obtain⟨B,hB⟩:∃B,B=zL (spB q):=⟨_,rfl⟩
   rw[←hB]at hl hone hBd hpe ⊢
   obtain⟨BH,hBH⟩:∃BH,BH=zL (b16 (onF H)):=⟨_,rfl⟩
   rw[←hBH]at q67a q67b hlH
   unfold WpY
   rw[←congrArg Lp.assign hlp,←congrArg Lp.body hlp,←congrArg Lp.ps hlp,←congrArg Lp.fr hlp]
   obtain⟨Y1,hY1⟩:∃Y1,Y1=((Z++T3 l A H)++[SB.loop .ready lp])++e:=⟨_,rfl⟩
   rw[←hY1]
   refine k_region (zo rfl ze85 ?_)
   refine wh rfl (ya _ _) sh85 rfl hl rfl rfl hone hBd ?_
   refine zC ?_
   have hYl:Y1.length=N+4+e.length:=by rw[hY1,List.length_append,List.length_append,hTl Z hZ];rfl
   have hZT:(Z++T3 l A H).length=N+3:=hTl Z hZ
   refine⟨rfl,?_,?_⟩
   ·show((Y1++[SB.box _]).set Y1.length (SB.box _))[N+3]? =_
    rw[wX,hY1,←hZT];exact yp (yp (ya _ _))
   ·obtain⟨Y2,hY2⟩:∃Y2,Y2=Z++(T3 l A H++[SB.loop .busy lp]++(e++[SB.box B])):=⟨_,rfl⟩
    have yci:Y2[ci]? =some (.box (witC l w H)):=by rw[hY2];exact hcZ _
    have yN:Y2[N]? =some (.box [.yld A]):=by rw[hY2];exact zEV (i:=0) hZ rfl
    have yH:Y2[N+1]? =some (.box BH):=by rw[hY2,hBH];exact zEV (i:=1) hZ rfl
    have yA:Y2[A]? =some (.loop .ready lp0):=by rw[hY2];exact yp (hc.bl _ _ hI)
    have y5:Y2[Y1.length]? =some (.box (l1++(BW++l2))):=by
     rw[←hpe,hY2,hYl,show Z++(T3 l A H++[SB.loop .busy lp]++(e++[SB.box B]))=(Z++(T3 l A H++[SB.loop .busy lp]++e))++[SB.box B] by simp,
      show N+4+e.length=(Z++(T3 l A H++[SB.loop .busy lp]++e)).length by simp[hZ];omega]
     exact ya _ _
    have y5l:Y1.length<Y2.length:=(List.getElem?_eq_some_iff.1 y5).1
    refine zI [(1,.box ci 0),(2,.box N 0),(3,.box (N+1) 0),(4,.box Y1.length 0)] Y2 (.n4 rfl) (by
     show(((Y1++[SB.box _]).set Y1.length (SB.box _)).set (N+3) (.loop .busy lp))=_
     rw[wX,hY1,hY2,←hZT,List.append_assoc,List.append_assoc (Z++T3 l A H),List.set_append_right _ _ (Nat.le_refl _),Nat.sub_self]
     simp) fun fr=>?_
    have z2:∀{i:Nat} {x:SB},Y2[i]? =some x→(Y2++[SB.box BW])[i]? =some x:=fun h=>yp h
    have hw4:(witC l w H)[0+4]? =some (.int .i64 w):=rfl
    have yH2:=z2 yH
    have yN2:=z2 yN
    refine zM (kQ (kw rfl fld92_1 (zf rfl rfl yci sh3 hw4 ?_)))
    refine yV rfl ty85 rfl rfl (by omega) (by omega) cl83 ?_
    refine o_loadP rfl rfl y5 sh83 hpl hlW ?_
    refine zo rfl ze83 ?_
    refine wh rfl (ya _ _) sh83 rfl hlW rfl rfl hoW hdW ?_
    refine zC ?_
    refine zI [(1,U.box ci 0),(2,U.box N 0),(3,U.box (N+1) 0),(4,U.box (List.length Y1) 0),(5,U.box (List.length Y2) 0)] (Y2++[SB.box BW]) (.n5 rfl) (wX _ _ _) fun fr=>?_
    have hE:Y2++[SB.box BW]=Z++((T3 l A H++[SB.loop .busy lp]++(e++[SB.box B]))++[SB.box BW]):=by rw[hY2,List.append_assoc]
    have hlen3:∀(Z':List SB) E (x:SB),Z'.length=N→(Z'++((T3 l A H++[x]++E)))[N+3]? =some x:=fun Z' E x hZ'=>by
     rw[←List.append_assoc,←List.append_assoc,←hTl Z' hZ'];exact yp (ya _ _)
    have hset3:∀(Z':List SB) E (x y:SB),Z'.length=N→(Z'++((T3 l A H++[x]++E))).set (N+3) y=((Z'++T3 l A H)++[y])++E:=fun Z' E x y hZ'=>by
     rw[←List.append_assoc,←List.append_assoc,←hTl Z' hZ',List.set_append_left _ _ (by simp),wX]
    cases z with
    |true=>
     have hfz:fitB w H q=false:=hfd
     rw[hfz,if_neg (by decide),List.append_nil]at hfi
     refine k_seq (kQ (yD rfl rfl yH2 sh83 hlH ?_))
     refine yD rfl rfl (ya _ _) sh83 hlW ?_
     refine zO rfl (q67a) (.lrefl _) (zBI rfl ze83 pl83 rfl rfl ?_)
     refine o_binK rfl rfl rfl fk rfl en ?_
     refine zC (k_cT rfl rfl ?_)
     refine yW ?_
     refine⟨?_,(Z++T3 l A H)++[SB.loop .ready lp],[SB.box B]++[SB.box BW],?_,.inl ⟨rfl,Z++T3 l A H,⟨Z,by rw[hfi];exact hI,rfl⟩,rfl⟩⟩
     ·show(Y2++[SB.box BW])[N+3]? =_
      rw[hE,List.append_assoc];exact hlen3 Z _ _ hZ
     ·show(Y2++[SB.box BW]).set (N+3) (.loop .ready lp)=_
      rw[hE,List.append_assoc,hset3 Z _ _ _ hZ];simp
    |false=>
     have hfz:fitB w H q=true:=hfd
     rw[hfz,if_pos rfl]at hfi
     have hr:=hrun hfz ((T3 l A H++[SB.loop .busy lp]++(e++[SB.box B]))++[SB.box BW])
     rw[←hE]at hr
     refine k_seq (kQ (yD rfl rfl yH2 sh83 hlH ?_))
     refine yD rfl rfl (ya _ _) sh83 hlW ?_
     refine zO rfl (q67a) (.lrefl _) (zBI rfl ze83 pl83 rfl rfl ?_)
     refine o_binK rfl rfl rfl fk rfl en ?_
     refine zC (k_cF rfl rfl ?_)
     refine zQ (k_seq (zAR [.read true,.read true,.read true,.read false,.plain,.plain] (by kernel_rfl) (by kernel_rfl) (by kernel_rfl) ?_))
     refine wE rfl (zf rfl rfl yN2 sh145 rfl (zC rfl)) ?_
     refine wE rfl (yD rfl rfl (ya _ _) sh83 hlW (zC rfl)) ?_
     refine wE rfl (yD rfl rfl yH2 sh83 hlH (zC rfl)) ?_
     refine zDE rfl (q67b) fLE (.lrefl _) ?_
     refine d_yield rfl rfl (yp yA) hc.own (by rw[hp1];simp[hp2]) (by rw[hp1];rfl) (.lrefl _) hr (fun u st1 hM=>?_)
     obtain⟨Z',e',rfl,⟨rfl,hI3⟩|⟨rfl,hD3⟩⟩:=hM
     ·have hZ':=hc.len _ _ hI3
      refine zE (wc rfl rfl (zC rfl)) ?_
      refine zBk ?_
      refine k_cF rfl rfl ?_
      refine zQ ?_
      have hEe:((T3 l A H++[SB.loop .busy lp]++(e++[SB.box B]))++[SB.box BW])++e'=T3 l A H++[SB.loop .busy lp]++((e++[SB.box B])++([SB.box BW]++e')):=by simp
      refine⟨?_,(Z'++T3 l A H)++[SB.loop .ready lp],[SB.box B]++([SB.box BW]++e'),?_,.inl ⟨rfl,Z'++T3 l A H,⟨Z',by rw[hfi];exact hI3,rfl⟩,rfl⟩⟩
      ·show(Z'++(((T3 l A H++[SB.loop .busy lp]++(e++[SB.box B]))++[SB.box BW])++e'))[N+3]? =_
       rw[hEe];exact hlen3 Z' _ _ hZ'
      ·show(Z'++(((T3 l A H++[SB.loop .busy lp]++(e++[SB.box B]))++[SB.box BW])++e')).set (N+3) (.loop .ready lp)=_
       rw[hEe,hset3 Z' _ _ _ hZ'];simp
     ·have hZ':=hc.lenD _ _ hD3
      refine zE (wc rfl rfl (zC rfl)) ?_
      refine zBk ?_
      refine k_cT rfl rfl ?_
      refine zg ?_
      have hEe:((T3 l A H++[SB.loop .busy lp]++(e++[SB.box B]))++[SB.box BW])++e'=T3 l A H++[SB.loop .busy lp]++((e++[SB.box B])++([SB.box BW]++e')):=by simp
      refine⟨?_,(Z'++T3 l A H)++[SB.loop (.done .ret) lp],[SB.box B]++([SB.box BW]++e'),?_,.inr ⟨rfl,Z'++T3 l A H,⟨Z',by rw[hfi];exact hD3,rfl⟩,rfl⟩⟩
      ·show(Z'++(((T3 l A H++[SB.loop .busy lp]++(e++[SB.box B]))++[SB.box BW])++e'))[N+3]? =_
       rw[hEe];exact hlen3 Z' _ _ hZ'
      ·show(Z'++(((T3 l A H++[SB.loop .busy lp]++(e++[SB.box B]))++[SB.box BW])++e')).set (N+3) (.loop (.done .ret) lp)=_
       rw[hEe,hset3 Z' _ _ _ hZ'];simp
 ·rintro Z' ⟨Z,hI,rfl⟩
  have hX2:=hc.len _ _ hI
  refine⟨.inl rfl,_,.nil,_,.refl _,Bd.tup (fun c hc=>by cases hc),?_,?_,.inl ?_⟩
  ·show Z0.length≤(Z++_).length
   rw[List.length_append,hX,hX2];omega
  ·show ∀x∈(Z++_).take Z0.length,BdS Z0.length x
   rw[hX,wU hX2];exact hc.bd _ _ hI
  ·show I (fitL l w H) ((Z++_).take Z0.length)
   rw[hX,wU hX2];exact hI
 ·rintro a r Z' har ⟨Z,hD,rfl⟩
  have hX2:=hc.lenD _ _ hD
  refine⟨.inr rfl,_,.nil,_,.refl _,Bd.tup (fun c hc=>by cases hc),?_,?_,.inr ⟨a.filter (fitB w H),r.filter (fitB w H),by unfold fitL;rw[har,List.filter_append],?_⟩⟩
  ·show Z0.length≤(Z++_).length
   rw[List.length_append,hX,hX2];omega
  ·show ∀x∈(Z++_).take Z0.length,BdS Z0.length x
   rw[hX,wU hX2];exact hc.bdD _ _ hD
  ·show D (a.filter (fitB w H)) ((Z++_).take Z0.length)
   rw[hX,wU hX2];exact hD
end
section
variable {is:FuncId→Bool}{orc:Known}{l:Ln}
noncomputable def b78:Code:=(Tryd.f78.body).getD .skip
theorem body78:bodyOf Tryd.prog 78=some (17,b78,[.cell 4 79]):=by kernel_rfl
theorem pure78:pureFn Tryd.prog 78=true:=by kernel_rfl
theorem ze4:yK Tryd.prog 4=some ((.cons (.bool false) .nil):V):=by kernel_rfl
noncomputable def b81:Code:=(Tryd.f81.body).getD .skip
theorem body81:bodyOf Tryd.prog 81=some (21,b81,[.cell 2 3,.cell 3 4]):=by kernel_rfl
theorem pure81:pureFn Tryd.prog 81=true:=by kernel_rfl
def zAW(w:Int)(H:List Int)(p:List Int):Nat:=(memP (losF w H p) 16).length
def fewB(w:Int)(H:List Int)(m:Int)(p:List Int):Bool:=decide ((zAW w H p:Int)≤m)
def lcnt(w:Int)(H:List Int)(L:List (List Int))(k:Nat):Nat:=(L.filter fun p=>losF w H p k).length
theorem los_out{w:Int}(hw:w≠ -1){H:List Int}{q:List Int}{k:Nat}(h:q.length≤k):losF w H q k=false:=by
 unfold losF woF plF
 rw[zGb h,kG (fun e=>hw e.symm),Bool.false_and]
theorem lcnt_snoc{w:Int}(hw:w≠ -1)(H:List Int)(L:List (List Int)){q:List Int}(hq:q.length≤16):lcnt w H (L++[q])=upC (losF w H q) (lcnt w H L) 16:=by
 funext k
 unfold lcnt upC
 rw[List.filter_append,List.length_append]
 by_cases c:losF w H q k=true
 ·have hk:k<16:=by
   by_cases e:k<16
   ·exact e
   ·rw[los_out hw (show q.length≤k by omega)]at c;cases c
  rw[if_pos ⟨hk,c⟩];simp[c]
 ·rw[if_neg (fun h=>c h.2)];simp[c]
theorem lcnt_le(w:Int)(H:List Int)(L:List (List Int))(k:Nat):lcnt w H L k≤L.length:=List.length_filter_le _ _
theorem filt_snoc(P:List Int→Bool)(L:List (List Int))(q:List Int):(L++[q]).filter P=L.filter P++if P q=true then [q]else []:=by
 rw[List.filter_append]
 cases c:P q with
 |true=>rw[List.filter_cons_of_pos c];rfl
 |false=>rw[List.filter_cons_of_neg (by rw[c];decide)];rfl
theorem bd_wit(l:Ln)(w:Int)(H:List Int)(n:Nat):BdS n (.box (witC l w H)):=fun c hc=>by
 simp only[List.mem_cons,List.not_mem_nil,or_false]at hc
 rcases hc with rfl|rfl|rfl|rfl|rfl|rfl
 ·exact(yj 2 .ro (fun h=>by cases h) 1 l.slots).nb.bd _
 ·exact Bd.int _ _ _
 ·exact Bd.int _ _ _
 ·exact Bd.int _ _ _
 ·exact Bd.int _ _ _
 ·exact(yj 2 .ro (fun h=>by cases h) 1 H).nb.bd _
theorem fit_spl{w:Int}{H:List Int}{q:List Int}(h:q∈fitL l w H):q∈splL l:=(List.mem_filter.1 h).1
theorem fit_few(h:VL l)(w:Int)(H:List Int):(fitL l w H).length≤65536:=Nat.le_trans (List.length_filter_le _ _) (spl_few h)
def fewL(l:Ln)(w:Int)(H:List Int)(m:Int):List (List Int):=(fitL l w H).filter (fewB w H m)
def cwV(l:Ln)(w:Int)(H:List Int)(m:Int)(L:List (List Int)):List SB:=[.box (witC l w H),.box [.int .i64 m],.box (tlC 0 fun _=>0),.box (tlC (L.filter (fewB w H m)).length (lcnt w H (L.filter (fewB w H m)))),.box (witC l w H)]
theorem cwV_bd(l:Ln)(w:Int)(H:List Int)(m:Int)(L:List (List Int)):∀x∈cwV l w H m L,BdS 5 x:=fun x hx=>by
 unfold cwV at hx
 simp only[List.mem_cons,List.not_mem_nil,or_false]at hx
 rcases hx with rfl|rfl|rfl|rfl|rfl
 ·exact bd_wit l _ _ _
 ·exact bd_int1 _ _
 ·exact bd_tl _ _ _
 ·exact bd_tl _ _ _
 ·exact bd_wit l _ _ _
set_option maxHeartbeats 16000000 in
theorem ret78(hi:Off is)(h:VL l){w:Int}(hw:w=0∨w=1){H:List Int}(hH:∀x∈H,0≤x∧x<16)(hHl:H.length≤4096)(m:Int):RetP Tryd.prog is orc 78 [witU l w H,.int .i64 m] (.agg (tlC (fewL l w H m).length (lcnt w H (fewL l w H m)))):=by
 refine yi body78 pure78 (hi 78 (by decide)) rfl rfl (zCr (zFo l w H 5) (.int _ _ _)) (.inl (dat_tl _ _ 6)) ?_
 have hww:=wpc101 (is:=is) (orc:=orc) l w H [.box (witC l w H),.box [.int .i64 m],.box (tlC 0 fun _=>0),.box (tlC 0 fun _=>0)]
 refine kQ (zx rfl rfl (zx rfl rfl (zo rfl ze79 ?_)))
 refine zC ?_
 refine zI [(2,U.box 0 0),(3,U.box 1 0),(4,U.box 2 0)] ([SB.box [.lst .ro 1 (zD (Ln.slots l)),.int .i64 (Ln.left l),.int .i64 (Ln.right l),.int .i64 (Ln.run l),.int .i64 w,.lst .ro 1 (zD H)],SB.box [.int .i64 m],SB.box [.int .i64 0,.int .i64 0,.int .i64 0,.int .i64 0,.int .i64 0,.int .i64 0,.int .i64 0,.int .i64 0,.int .i64 0,.int .i64 0,.int .i64 0,.int .i64 0,.int .i64 0,.int .i64 0,.int .i64 0,.int .i64 0,.int .i64 0]]) (.n3 rfl) rfl fun fr=>?_
 refine kQ (zo rfl ze79 ?_)
 refine zC ?_
 refine zI [(2,U.box 0 0),(3,U.box 1 0),(4,U.box 2 0),(5,U.box 3 0)] ([SB.box [.lst .ro 1 (zD (Ln.slots l)),.int .i64 (Ln.left l),.int .i64 (Ln.right l),.int .i64 (Ln.run l),.int .i64 w,.lst .ro 1 (zD H)],SB.box [.int .i64 m],SB.box [.int .i64 0,.int .i64 0,.int .i64 0,.int .i64 0,.int .i64 0,.int .i64 0,.int .i64 0,.int .i64 0,.int .i64 0,.int .i64 0,.int .i64 0,.int .i64 0,.int .i64 0,.int .i64 0,.int .i64 0,.int .i64 0,.int .i64 0],SB.box [.int .i64 0,.int .i64 0,.int .i64 0,.int .i64 0,.int .i64 0,.int .i64 0,.int .i64 0,.int .i64 0,.int .i64 0,.int .i64 0,.int .i64 0,.int .i64 0,.int .i64 0,.int .i64 0,.int .i64 0,.int .i64 0,.int .i64 0]]) (.n4 rfl) rfl fun fr=>?_
 refine zI [(2,.box 0 0),(3,.box 1 0),(4,.box 2 0),(5,.box 3 0)] [.box (witC l w H),.box [.int .i64 m],.box (tlC 0 fun _=>0),.box (tlC 0 fun _=>0)] (.n4 rfl) rfl fun fr=>?_
 refine k_seq (kQ (kB sh92 rfl ?_))
 refine zDm rfl hww (.lrefl _) (fun u st1 hM=>?_)
 refine zC (zM ?_)
 obtain⟨rfl,rfl⟩:=hM
 refine k_forget [(3,.box 1 0),(4,.box 2 0),(5,.box 3 0),(8,.fn 113 [] [.box 4 0])] (cwV l w H m []) (.n4 rfl) rfl ?_
 refine k_rangeV (n:=5) (V:=cwV l w H m) (p0:=9) hi (gen113 h hw hH hHl 4) rfl (fun _=>rfl) (cwV_bd l w H m) (fun c hc L=>by rcases List.mem_singleton.1 hc with rfl;rfl) rfl ?_ (fun i=>zBB _) rfl rfl rfl ?_ ?_
 ·intro i
  refine zFZ (p:=fun u=>Bd (5+1) (dg u)) ?_ (Bd.junk _) i
  intro x hx
  simp only[List.mem_cons,List.not_mem_nil,or_false]at hx
  rcases hx with rfl|rfl|rfl|rfl
  ·exact Bd.box (by omega)
  ·exact Bd.box (by omega)
  ·exact Bd.box (by omega)
  ·exact Bd.fn (fun u hu=>by cases hu) fun u hu=>by rcases List.mem_singleton.1 hu with rfl;exact Bd.box (by omega)
 ·generalize hlp:lpOf _ _ _ _=lp
  rintro is orc hi L q r e hels
  have hn:=h.n
  have hql:=spl_len h (fit_spl (show q∈fitL l w H by rw[hels];simp))
  have hLl:L.length<65536:=by have:=fit_few h w H;rw[hels]at this;simp at this;omega
  have hFl:(L.filter (fewB w H m)).length≤L.length:=List.length_filter_le _ _
  have hfs:=filt_snoc (fewB w H m) L q
  have hcl:=lcnt_le w H (L.filter (fewB w H m))
  have hV:cwV l w H m L=[.box (witC l w H),.box [.int .i64 m],.box (tlC 0 fun _=>0),.box (tlC (L.filter (fewB w H m)).length (lcnt w H (L.filter (fewB w H m)))),.box (witC l w H)]:=rfl
  have hV2:cwV l w H m (L++[q])=[.box (witC l w H),.box [.int .i64 m],.box (tlC 0 fun _=>0),if fewB w H m q=true then .box (tlC ((L.filter (fewB w H m)).length+1) (upC (losF w H q) (lcnt w H (L.filter (fewB w H m))) 16))else .box (tlC (L.filter (fewB w H m)).length (lcnt w H (L.filter (fewB w H m)))),.box (witC l w H)]:=by
   unfold cwV
   rw[hfs]
   by_cases c:fewB w H m q=true
   ·rw[if_pos c,if_pos c,lcnt_snoc (by omega) H _ (by omega),List.length_append];rfl
   ·rw[if_neg c,if_neg c,List.append_nil]
  rw[hV2,hV]
  have w96:=fun st hb=>wpc96 (is:=is) (orc:=orc) hi (n:=(L.filter (fewB w H m)).length) (c:=lcnt w H (L.filter (fewB w H m))) (f:=losF w H q) (by omega) (fun k=>by have:=hcl k;omega) (ci:=3) (st:=st) hb
  have q102:=ret102 (orc:=orc) hi (losF w H q)
  have hfd:fewB w H m q=decide (((memP (losF w H q) 16).length:Int)≤m):=rfl
  generalize lcnt w H (L.filter (fewB w H m))=c at*
  generalize (L.filter (fewB w H m)).length=n at*
  generalize (memP (losF w H q) 16).length=mm at*
  have hl:(zL (b16 (losF w H q))).length=16:=by unfold zL;rw[List.length_map,yG]
  have hone:=zBn (b16 (losF w H q))
  have hBd:=zBo (b16 (losF w H q))
  unfold losE
  obtain⟨B,hB⟩:∃B,B=zL (b16 (losF w H q)):=⟨_,rfl⟩
  rw[←hB]at hl hone hBd w96 q102 ⊢
  unfold WpY
  rw[←congrArg Lp.assign hlp,←congrArg Lp.body hlp,←congrArg Lp.ps hlp,←congrArg Lp.fr hlp]
  obtain⟨Y1,hY1⟩:∃Y,Y=([.box (witC l w H),.box [.int .i64 m],.box (tlC 0 fun _=>0),.box (tlC n c),.box (witC l w H)]++[SB.loop .ready lp])++e:=⟨_,rfl⟩
  rw[←hY1]
  refine k_region (zo rfl ze83 ?_)
  refine wh rfl (ya _ _) sh83 rfl hl rfl rfl hone hBd ?_
  refine zC ?_
  have hYl:Y1.length=6+e.length:=by rw[hY1];simp;omega
  refine⟨rfl,?_,?_⟩
  ·show((Y1++[SB.box _]).set Y1.length (SB.box _))[5]? =_
   rw[wX,hY1];rfl
  ·obtain⟨Y2,hY2⟩:∃Y,Y=([.box (witC l w H),.box [.int .i64 m],.box (tlC 0 fun _=>0),.box (tlC n c),.box (witC l w H)]++[SB.loop .busy lp])++(e++[SB.box B]):=⟨_,rfl⟩
   have y1:Y2[1]? =some (.box [.int .i64 m]):=by rw[hY2];rfl
   have y3:Y2[3]? =some (.box (tlC n c)):=by rw[hY2];rfl
   have y6:Y2[Y1.length]? =some (.box B):=by
    rw[hY2,hYl,←List.append_assoc,List.getElem?_append_right (by simp;omega)]
    simp
    rw[show 6+e.length - (e.length+1+1+1+1+1+1)=0 by omega];rfl
   refine zI [(3,.box 1 0),(5,.box 3 0),(6,.box Y1.length 0)] Y2 (.n3 rfl) (by
    show(((Y1++[SB.box _]).set Y1.length (SB.box _)).set 5 (.loop .busy lp))=_
    rw[wX,hY1,hY2,List.append_assoc];rfl) fun fr=>?_
   have w96:=w96 Y2 y3
   by_cases cm:(mm:Int)≤m
   ·rw[kF cm]at hfd
    rw[if_pos hfd]
    refine zM (k_seq (zAR [.read true,.read false,.read true,.plain] (by kernel_rfl) (by kernel_rfl) (by kernel_rfl) ?_))
    refine wE rfl (yD rfl rfl y6 sh83 hl (zC rfl)) ?_
    refine zDE rfl (q102) (.int _ _) (.lrefl _) ?_
    refine wE rfl (zf rfl rfl y1 sh3 rfl (zC rfl)) ?_
    refine zE (kq rfl (zC rfl)) ?_
    refine zBk ?_
    refine k_cT rfl (kF (by omega)) (k_region (yD rfl rfl y6 sh83 hl ?_))
    refine zDm rfl w96 (.lrefl _) (fun u st1 hM=>?_)
    refine zC ?_
    obtain⟨e2,rfl⟩:=hM
    refine⟨?_,rfl,[SB.box B]++e2,?_⟩
    ·show(Y2.set 3 (SB.box _)++e2)[5]? =_
     rw[hY2];rfl
    ·show(Y2.set 3 (SB.box _)++e2).set 5 (.loop .ready lp)=_
     rw[hY2]
     show [SB.box (witC l w H),SB.box [.int .i64 m],SB.box (tlC 0 fun _=>0),SB.box (tlC (n+1) (upC (losF w H q) c 16)),SB.box (witC l w H)]++[SB.loop .ready lp]++((e++[SB.box B])++e2)=_
     rw[List.append_assoc e]
   ·rw[kG cm]at hfd
    rw[if_neg (by rw[hfd];decide)]
    refine zM (k_seq (zAR [.read true,.read false,.read true,.plain] (by kernel_rfl) (by kernel_rfl) (by kernel_rfl) ?_))
    refine wE rfl (yD rfl rfl y6 sh83 hl (zC rfl)) ?_
    refine zDE rfl (q102) (.int _ _) (.lrefl _) ?_
    refine wE rfl (zf rfl rfl y1 sh3 rfl (zC rfl)) ?_
    refine zE (kq rfl (zC rfl)) ?_
    refine zBk ?_
    refine k_cF rfl (kG (by omega)) (zQ ?_)
    refine⟨?_,rfl,[SB.box B],?_⟩
    ·show Y2[5]? =_
     rw[hY2];rfl
    ·show Y2.set 5 (.loop .ready lp)=_
     rw[hY2];rfl
 ·show Wp Tryd.prog is orc _ _ _
  have hs:=tl_len (fewL l w H m).length (lcnt w H (fewL l w H m))
  have ho:=tl_one (fewL l w H m).length (lcnt w H (fewL l w H m))
  have hd:=tl_dg (fewL l w H m).length (lcnt w H (fewL l w H m))
  have hV:cwV l w H m (fitL l w H)=[.box (witC l w H),.box [.int .i64 m],.box (tlC 0 fun _=>0),.box (tlC (fewL l w H m).length (lcnt w H (fewL l w H m))),.box (witC l w H)]:=rfl
  rw[hV]
  refine kQ (yD rfl rfl rfl sh79 hs ?_)
  refine wh rfl rfl sh79 rfl hs rfl rfl ho hd ?_
  refine zC (zg ?_)
  refine⟨.inr rfl,_,.cons _ _ _ _ (.cellN 4 79 _ _ _ _ rfl rfl sh79 rfl) .nil,?_⟩
  exact .refl _
end
end Go.Proofs.YthhbfbmfhldbaaaDoor.locks
