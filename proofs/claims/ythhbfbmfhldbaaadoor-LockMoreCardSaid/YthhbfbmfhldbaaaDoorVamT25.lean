import Derived.Test.YthhbfbmfhldbaaaDoorVamT24
set_option linter.unusedVariables false
set_option linter.unusedSimpArgs false
set_option linter.constructorNameAsVariable false
namespace Go.Proofs.YthhbfbmfhldbaaaDoor.locks
open Vam
section
variable {is:FuncId→Bool}{orc:Known}{l:Ln}
def zEb(o:Option Nat)(n:Nat):Option Nat:=match o with
 |none=>some n
 |some f=>if n<f then some n else some f
def leO(w:Int)(H:List Int)(L:List (List Int)):Option Nat:=L.foldl (fun o p=>zEb o (zAW w H p)) none
theorem leO_snoc(w:Int)(H:List Int)(L:List (List Int))(q:List Int):leO w H (L++[q])=zEb (leO w H L) (zAW w H q):=by unfold leO;rw[List.foldl_append];rfl
theorem le_some{w:Int}{H:List Int}:∀(L:List (List Int)) (n:Nat),∃f,L.foldl (fun o p=>zEb o (zAW w H p)) (some n)=some f∧(f=n∨∃p∈L,zAW w H p=f)∧f≤n∧∀p∈L,f≤zAW w H p:=by
 intro L
 induction L with
 |nil=>intro n;exact⟨n,rfl,.inl rfl,Nat.le_refl _,fun p hp=>by cases hp⟩
 |cons q L ih=>
  intro n
  by_cases c:zAW w H q<n
  ·obtain⟨f,h1,h2,h3,h4⟩:=ih (zAW w H q)
   refine⟨f,(by rw[show zEb (some n) (zAW w H q)=some (zAW w H q)from if_pos c];exact h1:(L.foldl (fun o p=>zEb o (zAW w H p)) (zEb (some n) (zAW w H q)))=some f),.inr ?_,by omega,fun p hp=>?_⟩
   ·rcases h2 with h2|⟨p,hp,h2⟩
    ·exact⟨q,List.mem_cons_self,h2.symm⟩
    ·exact⟨p,List.mem_cons_of_mem _ hp,h2⟩
   ·rcases List.mem_cons.1 hp with rfl|hp
    ·exact h3
    ·exact h4 p hp
  ·obtain⟨f,h1,h2,h3,h4⟩:=ih n
   refine⟨f,(by rw[show zEb (some n) (zAW w H q)=some n from if_neg c];exact h1:(L.foldl (fun o p=>zEb o (zAW w H p)) (zEb (some n) (zAW w H q)))=some f),?_,h3,fun p hp=>?_⟩
   ·rcases h2 with h2|⟨p,hp,h2⟩
    ·exact .inl h2
    ·exact .inr ⟨p,List.mem_cons_of_mem _ hp,h2⟩
   ·rcases List.mem_cons.1 hp with rfl|hp
    ·omega
    ·exact h4 p hp
theorem le_spec(w:Int)(H:List Int)(L:List (List Int)):(L=[]∧leO w H L=none)∨∃f,leO w H L=some f∧(∃p∈L,zAW w H p=f)∧∀p∈L,f≤zAW w H p:=by
 cases L with
 |nil=>exact .inl ⟨rfl,rfl⟩
 |cons q L=>
  obtain⟨f,h1,h2,h3,h4⟩:=le_some (w:=w) (H:=H) L (zAW w H q)
  refine .inr ⟨f,h1,?_,fun p hp=>?_⟩
  ·rcases h2 with h2|⟨p,hp,h2⟩
   ·exact⟨q,List.mem_cons_self,h2.symm⟩
   ·exact⟨p,List.mem_cons_of_mem _ hp,h2⟩
  ·rcases List.mem_cons.1 hp with rfl|hp
   ·exact h3
   ·exact h4 p hp
def lwV(l:Ln)(w:Int)(H:List Int)(L:List (List Int)):List SB:=[.box (witC l w H),.box [.int .i64 ((leO w H L).getD 0:Nat)],.box [.bool (leO w H L).isSome],.box (witC l w H)]
theorem lwV_bd(l:Ln)(w:Int)(H:List Int)(L:List (List Int)):∀x∈lwV l w H L,BdS 4 x:=fun x hx=>by
 unfold lwV at hx
 simp only[List.mem_cons,List.not_mem_nil,or_false]at hx
 rcases hx with rfl|rfl|rfl|rfl
 ·exact bd_wit l _ _ _
 ·exact bd_int1 _ _
 ·intro c hc;rcases List.mem_singleton.1 hc with rfl;exact(Dat.bool 0 _).nb.bd _
 ·exact bd_wit l _ _ _
set_option maxHeartbeats 16000000 in
theorem ret81(hi:Off is)(h:VL l){w:Int}(hw:w=0∨w=1){H:List Int}(hH:∀x∈H,0≤x∧x<16)(hHl:H.length≤4096):RetP Tryd.prog is orc 81 [witU l w H] (.tup [.int .i64 ((leO w H (fitL l w H)).getD 0:Nat),.bool (leO w H (fitL l w H)).isSome]):=by
 refine yi body81 pure81 (hi 81 (by decide)) rfl rfl (zAV (zFo l w H 5)) (.inr ⟨_,rfl,zCr (.int _ _ _) (.bool _ _)⟩) ?_
 have hww:=wpc101 (is:=is) (orc:=orc) l w H [.box (witC l w H),.box [.int .i64 0],.box [.bool false]]
 refine kQ (zx rfl rfl (zo rfl ze3 ?_))
 refine zo rfl ze4 ?_
 refine zC ?_
 refine zI [(1,U.box 0 0),(2,U.box 1 0),(3,U.box 2 0)] ([SB.box [.lst .ro 1 (zD (Ln.slots l)),.int .i64 (Ln.left l),.int .i64 (Ln.right l),.int .i64 (Ln.run l),.int .i64 w,.lst .ro 1 (zD H)],SB.box [.int .i64 0],SB.box [.bool false]]) (.n3 rfl) rfl fun fr=>?_
 refine zI [(1,.box 0 0),(2,.box 1 0),(3,.box 2 0)] [.box (witC l w H),.box [.int .i64 0],.box [.bool false]] (.n3 rfl) rfl fun fr=>?_
 refine k_seq (kQ (kB sh92 rfl ?_))
 refine zDm rfl hww (.lrefl _) (fun u st1 hM=>?_)
 refine zC (zM ?_)
 obtain⟨rfl,rfl⟩:=hM
 refine k_forget [(2,.box 1 0),(3,.box 2 0),(7,.fn 113 [] [.box 3 0])] (lwV l w H []) (.n3 rfl) rfl ?_
 refine k_rangeV (n:=4) (V:=lwV l w H) (p0:=8) hi (gen113 h hw hH hHl 3) rfl (fun _=>rfl) (lwV_bd l w H) (fun c hc L=>by rcases List.mem_singleton.1 hc with rfl;rfl) rfl ?_ (fun i=>zBB _) rfl rfl rfl ?_ ?_
 ·intro i
  refine zFZ (p:=fun u=>Bd (4+1) (dg u)) ?_ (Bd.junk _) i
  intro x hx
  simp only[List.mem_cons,List.not_mem_nil,or_false]at hx
  rcases hx with rfl|rfl|rfl
  ·exact Bd.box (by omega)
  ·exact Bd.box (by omega)
  ·exact Bd.fn (fun u hu=>by cases hu) fun u hu=>by rcases List.mem_singleton.1 hu with rfl;exact Bd.box (by omega)
 ·generalize hlp:lpOf _ _ _ _=lp
  rintro is orc hi L q r e hels
  have hsn:=leO_snoc w H L q
  have hV:lwV l w H L=[.box (witC l w H),.box [.int .i64 ((leO w H L).getD 0:Nat)],.box [.bool (leO w H L).isSome],.box (witC l w H)]:=rfl
  have hV2:lwV l w H (L++[q])=[.box (witC l w H),.box [.int .i64 ((zEb (leO w H L) (zAW w H q)).getD 0:Nat)],.box [.bool (zEb (leO w H L) (zAW w H q)).isSome],.box (witC l w H)]:=by unfold lwV;rw[hsn]
  rw[hV2,hV]
  have q102:=ret102 (orc:=orc) hi (losF w H q)
  have q102:RetP Tryd.prog is orc 102 [.agg (zL (b16 (losF w H q)))] (.int .i64 (zAW w H q:Nat)):=q102
  generalize leO w H L=o at*
  generalize zAW w H q=mm at*
  have hl:(zL (b16 (losF w H q))).length=16:=by unfold zL;rw[List.length_map,yG]
  have hone:=zBn (b16 (losF w H q))
  have hBd:=zBo (b16 (losF w H q))
  unfold losE
  obtain⟨B,hB⟩:∃B,B=zL (b16 (losF w H q)):=⟨_,rfl⟩
  rw[←hB]at hl hone hBd q102 ⊢
  unfold WpY
  rw[←congrArg Lp.assign hlp,←congrArg Lp.body hlp,←congrArg Lp.ps hlp,←congrArg Lp.fr hlp]
  obtain⟨Y1,hY1⟩:∃Y,Y=([.box (witC l w H),.box [.int .i64 (o.getD 0:Nat)],.box [.bool o.isSome],.box (witC l w H)]++[SB.loop .ready lp])++e:=⟨_,rfl⟩
  rw[←hY1]
  refine k_region (zo rfl ze83 ?_)
  refine wh rfl (ya _ _) sh83 rfl hl rfl rfl hone hBd ?_
  refine zC ?_
  have hYl:Y1.length=5+e.length:=by rw[hY1];simp;omega
  refine⟨rfl,?_,?_⟩
  ·show((Y1++[SB.box _]).set Y1.length (SB.box _))[4]? =_
   rw[wX,hY1];rfl
  ·obtain⟨Y2,hY2⟩:∃Y,Y=([.box (witC l w H),.box [.int .i64 (o.getD 0:Nat)],.box [.bool o.isSome],.box (witC l w H)]++[SB.loop .busy lp])++(e++[SB.box B]):=⟨_,rfl⟩
   have y1:Y2[1]? =some (.box [.int .i64 (o.getD 0:Nat)]):=by rw[hY2];rfl
   have y2:Y2[2]? =some (.box [.bool o.isSome]):=by rw[hY2];rfl
   have y6:Y2[Y1.length]? =some (.box B):=by
    rw[hY2,hYl,←List.append_assoc,List.getElem?_append_right (by simp;omega)]
    simp
    rw[show 5+e.length - (e.length+1+1+1+1+1)=0 by omega];rfl
   refine zI [(2,.box 1 0),(3,.box 2 0),(4,.box Y1.length 0)] Y2 (.n3 rfl) (by
    show(((Y1++[SB.box _]).set Y1.length (SB.box _)).set 4 (.loop .busy lp))=_
    rw[wX,hY1,hY2,List.append_assoc];rfl) fun fr=>?_
   have y3:∀x,(Y2.set 1 x)[2]? =some (.box [.bool o.isSome]):=fun x=>by rw[hY2];rfl
   cases o with
   |none=>
    refine zM (kQ (yD rfl rfl y6 sh83 hl ?_))
    refine zO rfl (q102) (.lrefl _) (zB rfl (zC (kQ (zf rfl rfl y2 sh4 rfl ?_))))
    refine wc rfl rfl (zA rfl (ke rfl (ke rfl (ke rfl (kE rfl ?_)))))
    refine zC (k_cT rfl rfl ?_)
    refine k_region (zA rfl (yd rfl y1 sh3 rfl rfl ?_))
    refine yd rfl (y3 _) sh4 rfl rfl ?_
    refine zC ?_
    refine⟨?_,rfl,[SB.box B],?_⟩
    ·show((Y2.set 1 _).set 2 _)[4]? =_
     rw[hY2];rfl
    ·show((Y2.set 1 _).set 2 _).set 4 (.loop .ready lp)=_
     rw[hY2];rfl
   |some f=>
    have y4:Y2[1]? =some (.box [.int .i64 (f:Nat)]):=y1
    clear y1
    have hmt:zEb (some f) mm=if mm<f then some mm else some f:=rfl
    by_cases cm:mm<f
    ·rw[hmt,if_pos cm]
     refine zM (kQ (yD rfl rfl y6 sh83 hl ?_))
     refine zO rfl (q102) (.lrefl _) (zB rfl (zC (kQ (zf rfl rfl y2 sh4 rfl ?_))))
     refine wc rfl rfl (zA rfl (kf rfl (zA rfl (kf rfl (zf rfl rfl y4 sh3 rfl ?_)))))
     refine kf rfl (kp rfl (kD rfl ?_))
     refine zC (k_cT rfl (kF (by omega)) (k_region (zA rfl (yd rfl y4 sh3 rfl rfl ?_))))
     refine yd rfl (y3 _) sh4 rfl rfl ?_
     refine zC ?_
     refine⟨?_,rfl,[SB.box B],?_⟩
     ·show((Y2.set 1 _).set 2 _)[4]? =_
      rw[hY2];rfl
     ·show((Y2.set 1 _).set 2 _).set 4 (.loop .ready lp)=_
      rw[hY2];rfl
    ·rw[hmt,if_neg cm]
     refine zM (kQ (yD rfl rfl y6 sh83 hl ?_))
     refine zO rfl (q102) (.lrefl _) (zB rfl (zC (kQ (zf rfl rfl y2 sh4 rfl ?_))))
     refine wc rfl rfl (zA rfl (kf rfl (zA rfl (kf rfl (zf rfl rfl y4 sh3 rfl ?_)))))
     refine kf rfl (kp rfl (kD rfl ?_))
     refine zC (k_cF rfl (kG (by omega)) (zQ ?_))
     refine⟨?_,rfl,[SB.box B],?_⟩
     ·show Y2[4]? =_
      rw[hY2];rfl
     ·show Y2.set 4 (.loop .ready lp)=_
      rw[hY2];rfl
 ·show Wp Tryd.prog is orc _ _ _
  have hV:lwV l w H (fitL l w H)=[.box (witC l w H),.box [.int .i64 ((leO w H (fitL l w H)).getD 0:Nat)],.box [.bool (leO w H (fitL l w H)).isSome],.box (witC l w H)]:=rfl
  rw[hV]
  refine k_seq (k_drawA [.read true,.read true,.plain,.plain] [(3,2)] (by kernel_rfl) (by kernel_rfl) (by kernel_rfl) ?_)
  refine wE rfl (kA sh3 rfl (zC rfl)) (wE rfl (kA sh4 rfl (zC rfl)) (zE (yd rfl rfl sh3 rfl rfl (zC rfl)) ?_))
  refine zE (yd rfl rfl sh4 rfl rfl (zC rfl)) ?_
  refine zBk ⟨fun p hp=>by simp only[List.mem_cons,List.not_mem_nil,or_false]at hp;rcases hp with rfl<;>exact⟨_,_,_,_,_,rfl,rfl,Nat.ne_of_beq_eq_false rfl,rfl⟩,?_⟩
  refine zg ?_
  refine⟨.inr rfl,_,.cons _ _ _ _ (.cell1 2 3 _ _ _ _ rfl rfl sh3 rfl) (.cons _ _ _ _ (.cell1 3 4 _ _ _ _ rfl rfl sh4 rfl) .nil),?_⟩
  exact .refl _
end
section
variable {is:FuncId→Bool}{orc:Known}{l:Ln}
noncomputable def b76:Code:=(Tryd.f76.body).getD .skip
theorem body76:bodyOf Tryd.prog 76=some (6,b76,[.tmp 1]):=by kernel_rfl
theorem pure76:pureFn Tryd.prog 76=false:=by kernel_rfl
noncomputable def b31:Code:=(Tryd.f31.body).getD .skip
theorem body31:bodyOf Tryd.prog 31=some (32,b31,[.tmp 6,.tmp 7]):=by kernel_rfl
theorem pure31:pureFn Tryd.prog 31=true:=by kernel_rfl
noncomputable def b29:Code:=(Tryd.f29.body).getD .skip
theorem body29:bodyOf Tryd.prog 29=some (41,b29,[.tmp 8,.tmp 9,.tmp 10]):=by kernel_rfl
theorem pure29:pureFn Tryd.prog 29=true:=by kernel_rfl
theorem wpc76(hi:Off is){st:List SB}{i:Nat}{m:Int}(y0:st[i]? =some (.box [.int .i64 m])):WpC Tryd.prog is orc 76 [.box i 0] st fun u st'=>u=.bool (inS 0 6 m)∧st'=st:=by
 have q77:=ret77 (orc:=orc) hi 0 6 m
 refine zEH body76 pure76 rfl rfl ?_
 refine kQ (zB rfl (zC (kQ (zBH (i:=6) (c:=2) (n:=7) sh99 rfl rfl zDJ cl99 rfl rfl rfl (gatB 6 (by decide)) rfl ?_))))
 refine zf rfl rfl y0 sh3 rfl ?_
 refine zO rfl (q77) (.lrefl _) (zB rfl (zC (zg ?_)))
 refine⟨.inr rfl,_,.cons _ _ _ _ (.tmp 1) .nil,?_⟩
 exact⟨_,.refl _,rfl,rfl⟩
noncomputable def lstE(l:Ln)(w:Int)(H:List Int):Int:=if yM l=true then if yU l w H=true then if(leO w H (fitL l w H)).isSome=true then 0 else 4 else 71 else 70
noncomputable def lstN(l:Ln)(w:Int)(H:List Int):Nat:=if lstE l w H=0 then(leO w H (fitL l w H)).getD 0 else 0
set_option maxHeartbeats 16000000 in
theorem ret31(hi:Off is)(l:Ln)(w:Int)(H:List Int):RetP Tryd.prog is orc 31 [l.u,.int .i64 w,.lst .ro 1 (zD H)] (.tup [.int .i64 (lstN l w H:Nat),.int .i64 (lstE l w H)]):=by
 refine yi body31 pure31 (hi 31 (by decide)) rfl rfl (zGX (zAX l 5) (.int _ _ _) (yj 6 .ro (fun h=>by cases h) 1 H)) (.inr ⟨_,rfl,zCr (.int _ _ _) (.int _ _ _)⟩) ?_
 have q70:=ret70 (orc:=orc) hi l w H
 have q56:=ret56 (orc:=orc) hi l [⟨71,[witU l w H],yU l w H⟩] (fun q hq u hu=>by
  rcases List.mem_singleton.1 hq with rfl
  exact(zAV (zFo l w H 5) u hu).nb) (fun hv i q hq _=>by
  have hn:=(zAL.1 hv).n
  match i,hq with
  |0,hq=>cases hq;exact ret71 hi (by omega) w H) (by show 1≤10;omega)
 have q56:RetP Tryd.prog is orc 56 [l.u,.lst .ro 1 [.fn 71 [witU l w H] []]] (.int .i64 (askI l [⟨71,[witU l w H],yU l w H⟩])):=q56
 have hask:askI l [⟨71,[witU l w H],yU l w H⟩]=if yM l=true then if yU l w H=true then 0 else 71 else 70:=by
  unfold askI
  show(if yM l=true then if(yU l w H&&true)=true then(0:Int)else 71 else 70)=_
  rw[Bool.and_true]
 rw[hask]at q56
 have hE:lstE l w H=if yM l=true then if yU l w H=true then if(leO w H (fitL l w H)).isSome=true then 0 else 4 else 71 else 70:=rfl
 have hN:lstN l w H=if lstE l w H=0 then(leO w H (fitL l w H)).getD 0 else 0:=rfl
 cases hv:yM l with
 |false=>
  rw[hv,if_neg (by decide)]at q56 hE
  rw[hE,if_neg (by decide)]at hN
  rw[hE,hN]
  refine kQ (zx rfl rfl (zB rfl (zB rfl (zC ?_))))
  refine zI [(1,.int .i64 w),(2,.lst .ro 1 (zD H)),(3,U.box 0 0)] ([SB.box [.lst .ro 1 (zD (Ln.slots l)),.int .i64 (Ln.left l),.int .i64 (Ln.right l),.int .i64 (Ln.run l)]]) (.n3 rfl) rfl fun fr=>?_
  refine kQ (kB sh24 rfl (zA rfl (zA rfl (zO rfl (q70) (.lrefl _) (zo rfl ze92 ?_)))))
  refine wJ rfl rfl sh92 rfl rfl rfl rfl rfl ?_
  refine zC ?_
  refine zI [(3,U.box 0 0),(8,U.box 1 0)] ([SB.box [.lst .ro 1 (zD (Ln.slots l)),.int .i64 (Ln.left l),.int .i64 (Ln.right l),.int .i64 (Ln.run l)],SB.box [.lst .ro 1 (zD (Ln.slots l)),.int .i64 (Ln.left l),.int .i64 (Ln.right l),.int .i64 (Ln.run l),.int .i64 w,.lst .ro 1 (zD H)]]) (.n2 rfl) rfl fun fr=>?_
  refine k_seq (kQ (kB sh24 rfl (kB sh92 rfl ?_)))
  refine zBs rfl ?_
  refine zFS (es:=[U.fn 71 [U.agg [U.lst Kd.ro 1 (zD (Ln.slots l)),.int .i64 (Ln.left l),.int .i64 (Ln.right l),.int .i64 (Ln.run l),.int .i64 w,U.lst Kd.ro 1 (zD H)]] []]) rfl zFB ze34 cl34 rfl rfl rfl rfl rfl rfl rfl rfl ?_
  refine zO rfl (q56) (.lcons _ _ _ _ (.refl _) (.lcons _ _ _ _ (.ro _ _ _) (.lrefl _))) ?_
  refine zB rfl (zC (kQ (zA rfl (kr rfl (zC (k_cT rfl rfl ?_))))))
  refine kQ (zA rfl (zB rfl (zB rfl (zC (zg ?_)))))
  refine⟨.inr rfl,_,.cons _ _ _ _ (.tmp 6) (.cons _ _ _ _ (.tmp 7) .nil),?_⟩
  exact .refl _
 |true=>
  have h:=zAL.1 hv
  have hn:=h.n
  rw[hv,if_pos rfl]at q56 hE
  cases hr:yU l w H with
  |false=>
   rw[hr,if_neg (by decide)]at q56 hE
   rw[hE,if_neg (by decide)]at hN
   rw[hE,hN]
   refine kQ (zx rfl rfl (zB rfl (zB rfl (zC ?_))))
   refine zI [(1,.int .i64 w),(2,.lst .ro 1 (zD H)),(3,U.box 0 0)] ([SB.box [.lst .ro 1 (zD (Ln.slots l)),.int .i64 (Ln.left l),.int .i64 (Ln.right l),.int .i64 (Ln.run l)]]) (.n3 rfl) rfl fun fr=>?_
   refine kQ (kB sh24 rfl (zA rfl (zA rfl (zO rfl (q70) (.lrefl _) (zo rfl ze92 ?_)))))
   refine wJ rfl rfl sh92 rfl rfl rfl rfl rfl ?_
   refine zC ?_
   refine zI [(3,U.box 0 0),(8,U.box 1 0)] ([SB.box [.lst .ro 1 (zD (Ln.slots l)),.int .i64 (Ln.left l),.int .i64 (Ln.right l),.int .i64 (Ln.run l)],SB.box [.lst .ro 1 (zD (Ln.slots l)),.int .i64 (Ln.left l),.int .i64 (Ln.right l),.int .i64 (Ln.run l),.int .i64 w,.lst .ro 1 (zD H)]]) (.n2 rfl) rfl fun fr=>?_
   refine k_seq (kQ (kB sh24 rfl (kB sh92 rfl ?_)))
   refine zBs rfl ?_
   refine zFS (es:=[U.fn 71 [U.agg [U.lst Kd.ro 1 (zD (Ln.slots l)),.int .i64 (Ln.left l),.int .i64 (Ln.right l),.int .i64 (Ln.run l),.int .i64 w,U.lst Kd.ro 1 (zD H)]] []]) rfl zFB ze34 cl34 rfl rfl rfl rfl rfl rfl rfl rfl ?_
   refine zO rfl (q56) (.lcons _ _ _ _ (.refl _) (.lcons _ _ _ _ (.ro _ _ _) (.lrefl _))) ?_
   refine zB rfl (zC (kQ (zA rfl (kr rfl (zC (k_cT rfl rfl ?_))))))
   refine kQ (zA rfl (zB rfl (zB rfl (zC (zg ?_)))))
   refine⟨.inr rfl,_,.cons _ _ _ _ (.tmp 6) (.cons _ _ _ _ (.tmp 7) .nil),?_⟩
   exact .refl _
  |true=>
   obtain⟨hw,hp,hb⟩:=zBR.1 hr
   rw[hr,if_pos rfl]at q56 hE
   have hlen:H.length≤16:=by
    have:=zAe (fun i=>decide ((i:Int)∈H)) l.slots.length
    rw[inc_memP hp hb]at this
    omega
   have q81:=ret81 (orc:=orc) hi h hw (H:=H) (fun x hx=>by have:=hb x hx;omega) (by omega)
   cases ho:leO w H (fitL l w H)with
   |none=>
    rw[ho]at q81 hE
    have hE:lstE l w H=4:=hE
    rw[hE,if_neg (by decide)]at hN
    rw[hE,hN]
    have q81:RetP Tryd.prog is orc 81 [witU l w H] (.tup [.int .i64 0,.bool false]):=q81
    refine kQ (zx rfl rfl (zB rfl (zB rfl (zC ?_))))
    refine zI [(1,.int .i64 w),(2,.lst .ro 1 (zD H)),(3,U.box 0 0)] ([SB.box [.lst .ro 1 (zD (Ln.slots l)),.int .i64 (Ln.left l),.int .i64 (Ln.right l),.int .i64 (Ln.run l)]]) (.n3 rfl) rfl fun fr=>?_
    refine kQ (kB sh24 rfl (zA rfl (zA rfl (zO rfl (q70) (.lrefl _) (zo rfl ze92 ?_)))))
    refine wJ rfl rfl sh92 rfl rfl rfl rfl rfl ?_
    refine zC ?_
    refine zI [(3,U.box 0 0),(8,U.box 1 0)] ([SB.box [.lst .ro 1 (zD (Ln.slots l)),.int .i64 (Ln.left l),.int .i64 (Ln.right l),.int .i64 (Ln.run l)],SB.box [.lst .ro 1 (zD (Ln.slots l)),.int .i64 (Ln.left l),.int .i64 (Ln.right l),.int .i64 (Ln.run l),.int .i64 w,.lst .ro 1 (zD H)]]) (.n2 rfl) rfl fun fr=>?_
    refine k_seq (kQ (kB sh24 rfl (kB sh92 rfl ?_)))
    refine zBs rfl ?_
    refine zFS (es:=[U.fn 71 [U.agg [U.lst Kd.ro 1 (zD (Ln.slots l)),.int .i64 (Ln.left l),.int .i64 (Ln.right l),.int .i64 (Ln.run l),.int .i64 w,U.lst Kd.ro 1 (zD H)]] []]) rfl zFB ze34 cl34 rfl rfl rfl rfl rfl rfl rfl rfl ?_
    refine zO rfl (q56) (.lcons _ _ _ _ (.refl _) (.lcons _ _ _ _ (.ro _ _ _) (.lrefl _))) ?_
    refine zB rfl (zC (kQ (zA rfl (kr rfl (zC (k_cF rfl rfl ?_))))))
    refine zQ (kQ (kB sh92 rfl (zO rfl (q81) (.lrefl _) (zA rfl (ku rfl (ku rfl (zB rfl (zB rfl (zC ?_)))))))))
    refine zI [(10,.int .i64 0),(11,.bool false)] ([SB.box [.lst .ro 1 (zD (Ln.slots l)),.int .i64 (Ln.left l),.int .i64 (Ln.right l),.int .i64 (Ln.run l)],SB.box [.lst .ro 1 (zD (Ln.slots l)),.int .i64 (Ln.left l),.int .i64 (Ln.right l),.int .i64 (Ln.run l),.int .i64 w,.lst .ro 1 (zD H)]]) (.n2 rfl) rfl fun fr=>?_
    refine k_seq (kQ (zA rfl (wc rfl rfl (zC (k_cT rfl rfl ?_)))))
    refine kQ (zB rfl (zB rfl (zC (zg ?_))))
    refine⟨.inr rfl,_,.cons _ _ _ _ (.tmp 6) (.cons _ _ _ _ (.tmp 7) .nil),?_⟩
    exact .refl _
   |some f=>
    rw[ho]at q81 hE hN
    have hE:lstE l w H=0:=hE
    rw[hE,if_pos rfl]at hN
    rw[hE,hN]
    have q81:RetP Tryd.prog is orc 81 [witU l w H] (.tup [.int .i64 (f:Nat),.bool true]):=q81
    refine kQ (zx rfl rfl (zB rfl (zB rfl (zC ?_))))
    refine zI [(1,.int .i64 w),(2,.lst .ro 1 (zD H)),(3,U.box 0 0)] ([SB.box [.lst .ro 1 (zD (Ln.slots l)),.int .i64 (Ln.left l),.int .i64 (Ln.right l),.int .i64 (Ln.run l)]]) (.n3 rfl) rfl fun fr=>?_
    refine kQ (kB sh24 rfl (zA rfl (zA rfl (zO rfl (q70) (.lrefl _) (zo rfl ze92 ?_)))))
    refine wJ rfl rfl sh92 rfl rfl rfl rfl rfl ?_
    refine zC ?_
    refine zI [(3,U.box 0 0),(8,U.box 1 0)] ([SB.box [.lst .ro 1 (zD (Ln.slots l)),.int .i64 (Ln.left l),.int .i64 (Ln.right l),.int .i64 (Ln.run l)],SB.box [.lst .ro 1 (zD (Ln.slots l)),.int .i64 (Ln.left l),.int .i64 (Ln.right l),.int .i64 (Ln.run l),.int .i64 w,.lst .ro 1 (zD H)]]) (.n2 rfl) rfl fun fr=>?_
    refine k_seq (kQ (kB sh24 rfl (kB sh92 rfl ?_)))
    refine zBs rfl ?_
    refine zFS (es:=[U.fn 71 [U.agg [U.lst Kd.ro 1 (zD (Ln.slots l)),.int .i64 (Ln.left l),.int .i64 (Ln.right l),.int .i64 (Ln.run l),.int .i64 w,U.lst Kd.ro 1 (zD H)]] []]) rfl zFB ze34 cl34 rfl rfl rfl rfl rfl rfl rfl rfl ?_
    refine zO rfl (q56) (.lcons _ _ _ _ (.refl _) (.lcons _ _ _ _ (.ro _ _ _) (.lrefl _))) ?_
    refine zB rfl (zC (kQ (zA rfl (kr rfl (zC (k_cF rfl rfl ?_))))))
    refine zQ (kQ (kB sh92 rfl (zO rfl (q81) (.lrefl _) (zA rfl (ku rfl (ku rfl (zB rfl (zB rfl (zC ?_)))))))))
    refine zI [(10,.int .i64 ↑f),(11,.bool true)] ([SB.box [.lst .ro 1 (zD (Ln.slots l)),.int .i64 (Ln.left l),.int .i64 (Ln.right l),.int .i64 (Ln.run l)],SB.box [.lst .ro 1 (zD (Ln.slots l)),.int .i64 (Ln.left l),.int .i64 (Ln.right l),.int .i64 (Ln.run l),.int .i64 w,.lst .ro 1 (zD H)]]) (.n2 rfl) rfl fun fr=>?_
    refine k_seq (kQ (zA rfl (wc rfl rfl (zC (k_cF rfl rfl ?_)))))
    refine zQ (kQ (zA rfl (zB rfl (zB rfl (zC (zg ?_))))))
    refine⟨.inr rfl,_,.cons _ _ _ _ (.tmp 6) (.cons _ _ _ _ (.tmp 7) .nil),?_⟩
    exact .refl _
theorem wpc56z(hi:Off is)(hv:yM l=false)(st:List SB)(L:List Qw)(hlen:L.length≤10):
  WpC Tryd.prog is orc 56 [l.u,.lst .ro 1 (qwU L)] st fun u st'=>u=.int .i64 70∧∃e,st'=st++e:=by
 have q17:=ret17 (orc:=orc) hi l
 rw[hv,if_neg (by decide)]at q17
 refine zEH body56 pure56 rfl rfl ?_
 refine kQ (zx rfl rfl (zB rfl (zC ?_)))
 refine zI [(1,.lst .ro 1 (qwU L)),(2,U.box (List.length st) 0)] (st++[SB.box [.lst .ro 1 (zD (Ln.slots l)),.int .i64 (Ln.left l),.int .i64 (Ln.right l),.int .i64 (Ln.run l)]]) (.n2 rfl) rfl fun fr=>?_
 refine k_seq (kQ (zBG rfl rfl (ya _ _) sh24 rfl ?_))
 refine zO rfl (q17) (.lrefl _) (zB rfl (zC (kQ (zA rfl (kr rfl (zC (k_cT rfl rfl ?_)))))))
 refine kQ (zA rfl (zB rfl (zC (zg ?_))))
 refine⟨.inr rfl,_,.cons _ _ _ _ (.tmp 4) .nil,?_⟩
 exact⟨_,.refl _,rfl,[.box l.cs],rfl⟩
noncomputable def misE(l:Ln)(w:Int)(H:List Int)(m:Int):Int:=if yM l=true then if(yU l w H&&inS 0 6 m)=true then if(fewL l w H m).length=0 then 4 else 0 else 71 else 70
noncomputable def misA(l:Ln)(w:Int)(H:List Int)(m:Int):List Int:=if misE l w H m=0 then memP (allF (fewL l w H m).length (lcnt w H (fewL l w H m))) 16 else []
noncomputable def misB(l:Ln)(w:Int)(H:List Int)(m:Int):List Int:=if misE l w H m=0 then memP (somF (fewL l w H m).length (lcnt w H (fewL l w H m))) 16 else []
abbrev misV(l:Ln)(w:Int)(H:List Int)(m:Int):List SB:=[.box l.cs,.box [.int .i64 m],.box (witC l w H)]
set_option maxHeartbeats 32000000 in
theorem ret29(hi:Off is)(l:Ln)(w:Int)(H:List Int)(m:Int):RetP Tryd.prog is orc 29 [l.u,.int .i64 w,.lst .ro 1 (zD H),.int .i64 m] (.tup [.lst .ro 1 (zD (misA l w H m)),.lst .ro 1 (zD (misB l w H m)),.int .i64 (misE l w H m)]):=by
 refine yi body29 pure29 (hi 29 (by decide)) rfl rfl (dat_l4 (zAX l 5) (.int _ _ _) (yj 6 .ro (fun h=>by cases h) 1 H) (.int _ _ _)) (.inr ⟨_,rfl,zGX (yj 5 .ro (fun h=>by cases h) 1 _) (yj 5 .ro (fun h=>by cases h) 1 _) (.int _ _ _)⟩) ?_
 have q70:=ret70 (orc:=orc) hi l w H
 have hw:WpC Tryd.prog is orc 56 [l.u,.lst .ro 1 [.fn 71 [witU l w H] [],.fn 76 [] [.box 1 0]]] (misV l w H m) fun u st'=>u=.int .i64 (if yM l=true then if(yU l w H&&inS 0 6 m)=true then 0 else 71 else 70)∧∃e,st'=misV l w H m++e:=by
  cases hv:yM l with
  |false=>exact wpc56z hi hv (misV l w H m) [⟨71,[witU l w H],[],yU l w H⟩,⟨76,[],[.box 1 0],inS 0 6 m⟩] (by show 2≤10;omega)
  |true=>
   have h:=zAL.1 hv
   have hn:=h.n
   have:=wpc56 (orc:=orc) hi h (misV l w H m) [⟨71,[witU l w H],[],yU l w H⟩,⟨76,[],[.box 1 0],inS 0 6 m⟩] (fun i q e hq _=>by
    match i,hq with
    |0,hq=>cases hq;exact wpc_ret (ret71 hi (by omega) w H)
    |1,hq=>cases hq;exact wpc76 hi (st:=misV l w H m++e) (i:=1) (m:=m) rfl) (by show 2≤10;omega)
   refine this.mono fun u st' hh=>?_
   obtain⟨rfl,e,rfl⟩:=hh
   refine⟨?_,e,rfl⟩
   show U.int .i64 (if(yU l w H&&(inS 0 6 m&&true))=true then(0:Int)else 71)=_
   rw[Bool.and_true,if_pos rfl]
 have hE:misE l w H m=if yM l=true then if(yU l w H&&inS 0 6 m)=true then if(fewL l w H m).length=0 then 4 else 0 else 71 else 70:=rfl
 have hA:misA l w H m=if misE l w H m=0 then memP (allF (fewL l w H m).length (lcnt w H (fewL l w H m))) 16 else []:=rfl
 have hB:misB l w H m=if misE l w H m=0 then memP (somF (fewL l w H m).length (lcnt w H (fewL l w H m))) 16 else []:=rfl
 refine kQ (zx rfl rfl (zx rfl rfl (zB rfl (zB rfl (zB rfl (zC ?_))))))
 refine zI [(1,.int .i64 w),(2,.lst .ro 1 (zD H)),(4,U.box 0 0),(7,U.box 1 0)] ([SB.box [.lst .ro 1 (zD (Ln.slots l)),.int .i64 (Ln.left l),.int .i64 (Ln.right l),.int .i64 (Ln.run l)],SB.box [.int .i64 m]]) (.n4 rfl) rfl fun fr=>?_
 refine kQ (kB sh24 rfl (zA rfl (zA rfl (zO rfl (q70) (.lrefl _) (zo rfl ze92 ?_)))))
 refine wJ rfl rfl sh92 rfl rfl rfl rfl rfl ?_
 refine zC ?_
 refine zI [(4,U.box 0 0),(7,U.box 1 0),(11,U.box 2 0)] ([SB.box [.lst .ro 1 (zD (Ln.slots l)),.int .i64 (Ln.left l),.int .i64 (Ln.right l),.int .i64 (Ln.run l)],SB.box [.int .i64 m],SB.box [.lst .ro 1 (zD (Ln.slots l)),.int .i64 (Ln.left l),.int .i64 (Ln.right l),.int .i64 (Ln.run l),.int .i64 w,.lst .ro 1 (zD H)]]) (.n3 rfl) rfl fun fr=>?_
 refine kQ ?_
 refine zBs rfl ?_
 refine zB rfl (zC ?_)
 refine zI [(4,.box 0 0),(7,.box 1 0),(11,.box 2 0),(12,.fn 76 [] [.box 1 0])] (misV l w H m) (.n4 rfl) rfl fun fr=>?_
 by_cases c1:yM l=true∧(yU l w H&&inS 0 6 m)=true
 ·obtain⟨hv,hr2⟩:=c1
  have h:=zAL.1 hv
  have hn:=h.n
  rw[hv,if_pos rfl,hr2,if_pos rfl]at hw hE
  rw[Bool.and_eq_true]at hr2
  obtain⟨hww,hp,hb⟩:=zBR.1 hr2.1
  have hlen:H.length≤16:=by
   have:=zAe (fun i=>decide ((i:Int)∈H)) l.slots.length
   rw[inc_memP hp hb]at this
   omega
  have q78:=ret78 (orc:=orc) hi h hww (H:=H) (fun x hx=>by have:=hb x hx;omega) (by omega) m
  have q79:=ret79 (orc:=orc) hi (fewL l w H m).length (lcnt w H (fewL l w H m))
  have q68:=ret68 (orc:=orc) hi (fewL l w H m).length (lcnt w H (fewL l w H m))
  have q69a:=ret69 (orc:=orc) hi (allF (fewL l w H m).length (lcnt w H (fewL l w H m)))
  have q69b:=ret69 (orc:=orc) hi (somF (fewL l w H m).length (lcnt w H (fewL l w H m)))
  have hl:=tl_len (fewL l w H m).length (lcnt w H (fewL l w H m))
  have ho:=tl_one (fewL l w H m).length (lcnt w H (fewL l w H m))
  have hd:=tl_dg (fewL l w H m).length (lcnt w H (fewL l w H m))
  have hz:(tlC (fewL l w H m).length (lcnt w H (fewL l w H m)))[0]? =some (.int .i64 ((fewL l w H m).length:Nat)):=rfl
  have fA:=flat_bols (b16 (allF (fewL l w H m).length (lcnt w H (fewL l w H m))))
  generalize tlC (fewL l w H m).length (lcnt w H (fewL l w H m))=K at*
  generalize zL (b16 (allF (fewL l w H m).length (lcnt w H (fewL l w H m))))=A1 at*
  generalize zL (b16 (somF (fewL l w H m).length (lcnt w H (fewL l w H m))))=A2 at*
  generalize memP (allF (fewL l w H m).length (lcnt w H (fewL l w H m))) 16=F1 at*
  generalize memP (somF (fewL l w H m).length (lcnt w H (fewL l w H m))) 16=F2 at*
  generalize (fewL l w H m).length=n at*
  refine k_seq (kQ (kB sh24 rfl (kB sh92 rfl ?_)))
  refine zBs rfl ?_
  refine zA rfl (zFS (es:=[U.fn 71 [U.agg [U.lst Kd.ro 1 (zD (Ln.slots l)),.int .i64 (Ln.left l),.int .i64 (Ln.right l),.int .i64 (Ln.run l),.int .i64 w,U.lst Kd.ro 1 (zD H)]] [],U.fn 76 [] [U.box 1 0]]) rfl zFB ze34 cl34 rfl rfl rfl rfl rfl rfl rfl rfl ?_)
  refine zDm rfl hw (.lcons _ _ _ _ (.refl _) (.lcons _ _ _ _ (.ro _ _ _) (.lrefl _))) (fun u st1 hM=>?_)
  refine zB rfl (zC ?_)
  obtain⟨rfl,e,rfl⟩:=hM
  obtain⟨Y,hY⟩:∃Y,Y=misV l w H m++e:=⟨_,rfl⟩
  have y1:Y[1]? =some (.box [.int .i64 m]):=by rw[hY];rfl
  have y2:Y[2]? =some (.box (witC l w H)):=by rw[hY];rfl
  refine zI [(7,.box 1 0),(11,.box 2 0),(13,.int .i64 0)] Y (.n3 rfl) hY.symm fun fr=>?_
  by_cases cn:n=0
  ·subst cn
   rw[if_pos rfl]at hE
   rw[hE,if_neg (by decide)]at hA hB
   rw[hE,hA,hB]
   refine kQ (zA rfl (kr rfl (zC (k_cF rfl rfl ?_))))
   refine zQ (kQ (zBG rfl rfl y2 sh92 rfl ?_))
   refine zf rfl rfl y1 sh3 rfl ?_
   refine zO rfl (q78) (.lrefl _) (zo rfl ze79 ?_)
   refine wh rfl (ya _ _) sh79 rfl hl rfl rfl ho hd ?_
   refine zC ?_
   refine zI [(14,U.box (List.length Y) 0)] (Y++[SB.box K]) (.n1 rfl) (wX _ _ _) fun fr=>?_
   refine k_seq (kQ (kw rfl zDv (zf rfl rfl (ya _ _) sh3 hz ?_)))
   refine ks rfl (zC (k_cT rfl rfl ?_))
   refine kQ (zB rfl (zB rfl (zB rfl (zC (zg ?_)))))
   refine⟨.inr rfl,_,.cons _ _ _ _ (.tmp 8) (.cons _ _ _ _ (.tmp 9) (.cons _ _ _ _ (.tmp 10) .nil)),?_⟩
   exact .tup _ _ (.lcons _ _ _ _ (.nil .full .ro 1) (.lcons _ _ _ _ (.nil .full .ro 1) (.lrefl _)))
  ·rw[if_neg cn]at hE
   rw[hE,if_pos rfl]at hA hB
   rw[hE,hA,hB]
   refine kQ (zA rfl (kr rfl (zC (k_cF rfl rfl ?_))))
   refine zQ (kQ (zBG rfl rfl y2 sh92 rfl ?_))
   refine zf rfl rfl y1 sh3 rfl ?_
   refine zO rfl (q78) (.lrefl _) (zo rfl ze79 ?_)
   refine wh rfl (ya _ _) sh79 rfl hl rfl rfl ho hd ?_
   refine zC ?_
   refine zI [(14,U.box (List.length Y) 0)] (Y++[SB.box K]) (.n1 rfl) (wX _ _ _) fun fr=>?_
   refine k_seq (kQ (kw rfl zDv (zf rfl rfl (ya _ _) sh3 hz ?_)))
   refine ks rfl (zC (k_cF rfl (kG (by omega)) (zQ (k_seq (zAR [.read true,.read false,.quiet,.read true,.plain,.plain,.plain,.plain,.plain] (by kernel_rfl) (by kernel_rfl) (by kernel_rfl) ?_)))))
   refine wE rfl (yD rfl rfl (ya _ _) sh79 hl (zC rfl)) ?_
   refine zDE rfl (q79) fA (.lrefl _) ?_
   refine d_callQ rfl (q69a) (.lrefl _) ?_
   refine wE rfl (yD rfl rfl (ya _ _) sh79 hl (zC rfl)) ?_
   refine zE (zO rfl (q68) (.lrefl _) (zC rfl)) ?_
   refine zE (zO rfl (q69b) (.lrefl _) (zC rfl)) ?_
   refine zE (zB rfl (zC rfl)) ?_
   refine zE (zB rfl (zC rfl)) ?_
   refine zE (zB rfl (zC rfl)) ?_
   refine zBk ?_
   refine zg ?_
   refine⟨.inr rfl,_,.cons _ _ _ _ (.tmp 8) (.cons _ _ _ _ (.tmp 9) (.cons _ _ _ _ (.tmp 10) .nil)),?_⟩
   exact .refl _
   done
 ·have hne:(if yM l=true then if(yU l w H&&inS 0 6 m)=true then(0:Int)else 71 else 70)=misE l w H m∧misE l w H m≠0:=by
   rw[hE]
   by_cases v:yM l=true
   ·have r: ¬ (yU l w H&&inS 0 6 m)=true:=fun e=>c1 ⟨v,e⟩
    rw[if_pos v,if_pos v,if_neg r,if_neg r];exact⟨rfl,by decide⟩
   ·rw[if_neg v,if_neg v];exact⟨rfl,by decide⟩
  obtain⟨h1,h2⟩:=hne
  rw[h1]at hw
  rw[if_neg h2]at hA hB
  rw[hA,hB]
  clear hE
  generalize misE l w H m=E at*
  refine k_seq (kQ (kB sh24 rfl (kB sh92 rfl ?_)))
  refine zBs rfl ?_
  refine zA rfl (zFS (es:=[U.fn 71 [U.agg [U.lst Kd.ro 1 (zD (Ln.slots l)),.int .i64 (Ln.left l),.int .i64 (Ln.right l),.int .i64 (Ln.run l),.int .i64 w,U.lst Kd.ro 1 (zD H)]] [],U.fn 76 [] [U.box 1 0]]) rfl zFB ze34 cl34 rfl rfl rfl rfl rfl rfl rfl rfl ?_)
  refine zDm rfl hw (.lcons _ _ _ _ (.refl _) (.lcons _ _ _ _ (.ro _ _ _) (.lrefl _))) (fun u st1 hM=>?_)
  refine zB rfl (zC ?_)
  obtain⟨rfl,e,rfl⟩:=hM
  refine zI [(7,.box 1 0),(11,.box 2 0),(13,.int .i64 E)] (misV l w H m++e) (.n3 rfl) rfl fun fr=>?_
  refine kQ (zA rfl (kr rfl (zC (k_cT rfl (kF (by omega)) (kQ (zA rfl (zB rfl (zB rfl (zB rfl (zC (zg ?_)))))))))))
  refine⟨.inr rfl,_,.cons _ _ _ _ (.tmp 8) (.cons _ _ _ _ (.tmp 9) (.cons _ _ _ _ (.tmp 10) .nil)),?_⟩
  exact .tup _ _ (.lcons _ _ _ _ (.nil .full .ro 1) (.lcons _ _ _ _ (.nil .full .ro 1) (.lrefl _)))
end
end Go.Proofs.YthhbfbmfhldbaaaDoor.locks
