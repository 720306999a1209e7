import Derived.Test.YthhbfbmfhldbaaaDoorVamT18
set_option linter.unusedVariables false
set_option linter.unusedSimpArgs false
set_option linter.constructorNameAsVariable false
namespace Go.Proofs.YthhbfbmfhldbaaaDoor.locks
open Vam
section
variable {is:FuncId→Bool}{orc:Known}{l:Ln}
theorem pl129:zFV Tryd.prog 129=some [(0,1),(1,32),(33,1)]:=by kernel_rfl
theorem sh129:shOf Tryd.prog 129=.many 34:=by kernel_rfl
theorem ze129:yM Tryd.prog 129=some ((.cons .nilf (.cons (.bool false) (.cons (.bool false) (.cons (.bool false) (.cons (.bool false) (.cons (.bool false) (.cons (.bool false) (.cons (.bool false) (.cons (.bool false) (.cons (.bool false) (.cons (.bool false) (.cons (.bool false) (.cons (.bool false) (.cons (.bool false) (.cons (.bool false) (.cons (.bool false) (.cons (.bool false) (.cons (.bool false) (.cons (.bool false) (.cons (.bool false) (.cons (.bool false) (.cons (.bool false) (.cons (.bool false) (.cons (.bool false) (.cons (.bool false) (.cons (.bool false) (.cons (.bool false) (.cons (.bool false) (.cons (.bool false) (.cons (.bool false) (.cons (.bool false) (.cons (.bool false) (.cons (.bool false) (.cons (.bool false) .nil)))))))))))))))))))))))))))))))))):V):=by kernel_rfl
noncomputable def b63:Code:=(Tryd.f63.body).getD .skip
theorem body63:bodyOf Tryd.prog 63=some (16,b63,[.cell 2 85,.tmp 3]):=by kernel_rfl
theorem pure63:pureFn Tryd.prog 63=true:=by kernel_rfl
def frV(l:Ln)(L:List (List Int)):List SB:=[.box l.cs,.box (zK (spB [])),.box (chC (bstO L)),.box l.cs]
theorem bd_cs(l:Ln)(n:Nat):BdS n (.box l.cs):=fun c hc=>by
 simp only[List.mem_cons,List.not_mem_nil,or_false]at hc
 rcases hc with rfl|rfl|rfl|rfl
 ·exact(yG 2 .ro (fun h=>by cases h) 1 l.slots).nb.bd _
 ·exact Bd.int _ _ _
 ·exact Bd.int _ _ _
 ·exact Bd.int _ _ _
theorem bd_bols(S:List Bool)(n:Nat):BdS n (.box (zK S)):=fun c hc=>by
 obtain⟨b,_,rfl⟩:=List.mem_map.1 hc
 exact(Dat.bool 0 b).nb.bd _
theorem bd_ch(o:Option (List Int))(n:Nat):BdS n (.box (chC o)):=fun c hc=>by
 unfold chC at hc
 rcases List.mem_append.1 hc with hc|hc
 ·rcases List.mem_singleton.1 hc with rfl;exact(nb_fn0 _).bd _
 ·rcases List.mem_append.1 hc with hc|hc
  ·exact bd_bols _ n c hc
  ·rcases List.mem_singleton.1 hc with rfl;exact(Dat.bool 0 _).nb.bd _
theorem frV_bd(l:Ln)(L:List (List Int)):∀x∈frV l L,BdS 4 x:=fun x hx=>by
 unfold frV at hx
 simp only[List.mem_cons,List.not_mem_nil,or_false]at hx
 rcases hx with rfl|rfl|rfl|rfl
 ·exact bd_cs l _
 ·exact bd_bols _ _
 ·exact bd_ch _ _
 ·exact bd_cs l _
theorem zDr(h:VL l){q:List Int}(hq:q∈splL l):q.length=l.slots.length:=(zBS.1 ((spl_div h).1 hq)).1
theorem bst_mem{L:List (List Int)}{q:List Int}(h:bstO L=some q):q∈L:=by
 have key:∀(L:List (List Int)) (o:Option (List Int)),L.foldl zBd o=some q→q∈L∨o=some q:=by
  intro L
  induction L with
  |nil=>intro o h;exact .inr h
  |cons p L ih=>
   intro o h
   rcases ih _ h with h1|h1
   ·exact .inl (List.mem_cons_of_mem _ h1)
   ·cases o with
    |none=>cases h1;exact .inl List.mem_cons_self
    |some r=>
     have h1:(if dfI p<dfI r then some p else some r)=some q:=h1
     split at h1
     ·cases h1;exact .inl List.mem_cons_self
     ·exact .inr h1
 rcases key L none h with h1|h1
 ·exact h1
 ·cases h1
set_option maxHeartbeats 16000000 in
theorem ret63(hi:Off is)(h:VL l):RetP Tryd.prog is orc 63 [l.u] (.tup [spE ((bstO (splL l)).getD []),.bool (bstO (splL l)).isSome]):=by
 refine zw body63 pure63 (hi 63 (by decide)) rfl rfl (wA (yk l 5)) (.inr ⟨_,rfl,yq (yy _ 5) (.bool _ _)⟩) ?_
 have hw:=wpc95 (is:=is) (orc:=orc) l [.box l.cs,.box (zK (spB [])),.box (chC none)]
 refine kQ (zk rfl rfl (yL rfl ze85 ?_))
 refine zA rfl (zB ?_)
 refine zH [(1,U.box 0 0),(2,U.box 1 0)] ([SB.box [.lst .ro 1 (zE (Ln.slots l)),.int .i64 (Ln.left l),.int .i64 (Ln.right l),.int .i64 (Ln.run l)],SB.box [.bool false,.bool false,.bool false,.bool false,.bool false,.bool false,.bool false,.bool false,.bool false,.bool false,.bool false,.bool false,.bool false,.bool false,.bool false,.bool false,.bool false,.bool false,.bool false,.bool false,.bool false,.bool false,.bool false,.bool false,.bool false,.bool false,.bool false,.bool false,.bool false,.bool false,.bool false,.bool false]]) (.n2 rfl) rfl fun fr=>?_
 refine kQ (we rfl ze129 pl129 rfl rfl ?_)
 refine yL rfl ze129 ?_
 refine yY rfl rfl sh129 rfl rfl rfl rfl rfl ?_
 refine zB ?_
 refine zH [(1,U.box 0 0),(2,U.box 1 0),(4,U.box 2 0)] ([SB.box [.lst .ro 1 (zE (Ln.slots l)),.int .i64 (Ln.left l),.int .i64 (Ln.right l),.int .i64 (Ln.run l)],SB.box [.bool false,.bool false,.bool false,.bool false,.bool false,.bool false,.bool false,.bool false,.bool false,.bool false,.bool false,.bool false,.bool false,.bool false,.bool false,.bool false,.bool false,.bool false,.bool false,.bool false,.bool false,.bool false,.bool false,.bool false,.bool false,.bool false,.bool false,.bool false,.bool false,.bool false,.bool false,.bool false],SB.box [U.fn 97 [] [],.bool false,.bool false,.bool false,.bool false,.bool false,.bool false,.bool false,.bool false,.bool false,.bool false,.bool false,.bool false,.bool false,.bool false,.bool false,.bool false,.bool false,.bool false,.bool false,.bool false,.bool false,.bool false,.bool false,.bool false,.bool false,.bool false,.bool false,.bool false,.bool false,.bool false,.bool false,.bool false,.bool false]]) (.n3 rfl) rfl fun fr=>?_
 refine zH [(2,.box 1 0),(1,.box 0 0),(4,.box 2 0)] [.box l.cs,.box (zK (spB [])),.box (chC none)] (.n3 rfl) rfl fun fr=>?_
 refine k_seq (kQ (kB sh73 rfl ?_))
 refine o_callW rfl hw (.lrefl _) (fun u st1 hM=>?_)
 refine zB (zI ?_)
 obtain⟨rfl,rfl⟩:=hM
 refine k_forget [(2,.box 1 0),(4,.box 2 0),(8,.fn 110 [] [.box 3 0])] (frV l []) (.n3 rfl) rfl ?_
 refine k_rangeV (n:=4) (V:=frV l) (p0:=9) hi (gen110 h 3) rfl (fun _=>rfl) (frV_bd l) (fun c hc L=>by rcases List.mem_singleton.1 hc with rfl;rfl) rfl ?_ (fun i=>zCt _) rfl rfl rfl ?_ ?_
 ·intro i
  refine lookU_all (p:=fun u=>Bd (4+1) (dg u)) ?_ (Bd.junk _) i
  intro x hx
  simp only[List.mem_cons,List.not_mem_nil,or_false]at hx
  rcases hx with rfl|rfl|rfl
  ·exact Bd.box (by omega)
  ·exact Bd.box (by omega)
  ·exact Bd.fn (fun u hu=>by cases hu) fun u hu=>by rcases List.mem_singleton.1 hu with rfl;exact Bd.box (by omega)
 ·generalize hlp:lpOf _ _ _ _=lp
  rintro is orc hi L q r e hels
  have hn:=h.n
  have hq:q∈splL l:=by rw[hels];simp
  have hql:=zDr h hq
  have hbo:∀p,bstO L=some p→p.length≤16:=fun p hp=>by
   have:=zDr h (show p∈splL l by rw[hels];exact List.mem_append_left _ (bst_mem hp));omega
  have hsn:=bstO_snoc L q
  have hV:frV l L=[.box l.cs,.box (zK (spB [])),.box (chC (bstO L)),.box l.cs]:=rfl
  have hV2:frV l (L++[q])=[.box l.cs,.box (zK (spB [])),.box (chC (zBd (bstO L) q)),.box l.cs]:=by rw[←hsn];rfl
  rw[hV2]
  rw[hV]
  generalize bstO L=o at*
  have w98:=fun st hb=>wpc98 (is:=is) (orc:=orc) hi hbo (p:=q) (by omega) (ci:=2) (st:=st) hb
  have hl:=wd q
  have hone:=zCv (spB q)
  have hBd:=zBU (spB q)
  unfold spE at w98 ⊢
  obtain⟨B,hB⟩:∃B,B=zK (spB q):=⟨_,rfl⟩
  rw[←hB]at w98 hl hone hBd ⊢
  unfold WpY
  rw[←congrArg Lp.assign hlp,←congrArg Lp.body hlp,←congrArg Lp.ps hlp,←congrArg Lp.fr hlp]
  obtain⟨Y1,hY1⟩:∃Y,Y=([.box l.cs,.box (zK (spB [])),.box (chC o),.box l.cs]++[SB.loop .ready lp])++e:=⟨_,rfl⟩
  rw[←hY1]
  refine k_region (yL rfl ze85 ?_)
  refine zBE rfl (wI _ _) sh85 rfl hl rfl rfl hone hBd ?_
  refine zB ?_
  have hYl:Y1.length=5+e.length:=by rw[hY1];simp;omega
  refine⟨rfl,?_,?_⟩
  ·show((Y1++[SB.box _]).set Y1.length (SB.box _))[4]? =_
   rw[zAJ,hY1];rfl
  ·obtain⟨Y2,hY2⟩:∃Y,Y=([.box l.cs,.box (zK (spB [])),.box (chC o),.box l.cs]++[SB.loop .busy lp])++(e++[SB.box B]):=⟨_,rfl⟩
   have y2:Y2[2]? =some (.box (chC o)):=by rw[hY2];rfl
   have y5:Y2[Y1.length]? =some (.box B):=by
    rw[hY2,hYl,←List.append_assoc,List.getElem?_append_right (by simp;omega)]
    simp
    rw[show 5+e.length - (e.length+1+1+1+1+1)=0 by omega];rfl
   refine zH [(4,.box 2 0),(5,.box Y1.length 0)] Y2 (.n2 rfl) (by
    show(((Y1++[SB.box _]).set Y1.length (SB.box _)).set 4 (.loop .busy lp))=_
    rw[zAJ,hY1,hY2,List.append_assoc];rfl) fun fr=>?_
   have w98:=w98 Y2 y2
   refine zI (k_region (yn rfl rfl y5 sh85 hl ?_))
   refine o_callW rfl w98 (.lrefl _) (fun u st1 hM=>?_)
   refine zB ?_
   obtain⟨e2,rfl⟩:=hM
   refine⟨?_,rfl,[SB.box B]++e2,?_⟩
   ·show(Y2.set 2 (SB.box (chC (zBd o q)))++e2)[4]? =_
    rw[hY2];rfl
   ·show(Y2.set 2 (SB.box (chC (zBd o q)))++e2).set 4 (.loop .ready lp)=_
    rw[hY2]
    show [SB.box l.cs,SB.box (zK (spB [])),SB.box (chC (zBd o q)),SB.box l.cs]++[SB.loop .ready lp]++((e++[SB.box B])++e2)=_
    rw[List.append_assoc e]
 ·show Wp Tryd.prog is orc _ _ _
  have hs:=wd ((bstO (splL l)).getD [])
  refine k_seq (k_drawA [.plain,.read true,.plain,.read true,.plain,.plain] [(14,2)] (by kernel_rfl) (by kernel_rfl) (by kernel_rfl) ?_)
  refine zD (kw rfl zDg (zB rfl)) ?_
  refine zf rfl (kB sh85 rfl (zB rfl)) ?_
  refine zD (kw rfl zCq (zB rfl)) ?_
  refine zf rfl (kA sh4 rfl (zB rfl)) (zD (yY rfl rfl sh85 rfl rfl rfl rfl rfl (zB rfl)) ?_)
  refine zD (zA rfl (zB rfl)) ?_
  refine wm ⟨fun p hp=>by simp only[List.mem_cons,List.not_mem_nil,or_false]at hp;rcases hp with rfl<;>exact⟨_,_,_,_,_,rfl,rfl,Nat.ne_of_beq_eq_false rfl,rfl⟩,?_⟩
  refine zV ?_
  refine⟨.inr rfl,_,.cons _ _ _ _ (.cellN 2 85 _ _ _ _ rfl rfl sh85 rfl) (.cons _ _ _ _ (.tmp 3) .nil),?_⟩
  exact .refl _
end
section
variable {is:FuncId→Bool}{orc:Known}{l:Ln}
noncomputable def b21:Code:=(Tryd.f21.body).getD .skip
theorem body21:bodyOf Tryd.prog 21=some (25,b21,[.tmp 2,.tmp 3]):=by kernel_rfl
theorem pure21:pureFn Tryd.prog 21=true:=by kernel_rfl
theorem pl_back(h:VL l){p:List Int}(hd:divB l p=true):plL (plF p 0) (plF p 1) l.slots.length=p:=by
 obtain⟨hl,ht,_⟩:=zBS.1 hd
 refine at_ext (by rw[plL_len,hl]) fun i hi=>?_
 rw[plL_len]at hi
 have e:at' (plL (plF p 0) (plF p 1) l.slots.length) i=plI (plF p 0) (plF p 1) i:=by
  unfold plL at';rw[List.getElem?_map,List.getElem?_range hi];rfl
 rw[e]
 unfold plI plF
 rcases wn (ht i hi)with ⟨c,_⟩|⟨c|c,_⟩
 ·rw[c];rfl
 ·rw[c];rfl
 ·rw[c];rfl
noncomputable def splE(l:Ln):Int:=if zz l=true then if(bstO (splL l)).isSome=true then 0 else 4 else 70
noncomputable def splR(l:Ln):List Int:=if splE l=0 then(bstO (splL l)).getD []else []
theorem ask0(hi:Off is)(l:Ln):RetP Tryd.prog is orc 56 [l.u,.lst .ro 1 []] (.int .i64 (if zz l=true then 0 else 70)):=by
 have q:=ret56 (orc:=orc) hi l [] (fun q hq=>by cases hq) (fun _ i q hq _=>by simp at hq) (by show 0≤10;omega)
 exact q
theorem bst_div(h:VL l){b:List Int}(hb:bstO (splL l)=some b):divB l b=true:=(spl_div h).1 (bst_mem hb)
set_option maxHeartbeats 16000000 in
theorem ret21(hi:Off is)(l:Ln):RetP Tryd.prog is orc 21 [l.u] (.tup [.lst .ro 1 (zE (splR l)),.int .i64 (splE l)]):=by
 refine zw body21 pure21 (hi 21 (by decide)) rfl rfl (wA (yk l 5)) (.inr ⟨_,rfl,yq (yG 5 .ro (fun h=>by cases h) 1 _) (.int _ _ _)⟩) ?_
 have q56:=ask0 (orc:=orc) hi l
 have hE:splE l=if zz l=true then if(bstO (splL l)).isSome=true then 0 else 4 else 70:=rfl
 have hR:splR l=if splE l=0 then(bstO (splL l)).getD []else []:=rfl
 cases hv:zz l with
 |false=>
  rw[hv,if_neg (by decide)]at hE q56
  rw[hE,if_neg (by decide)]at hR
  rw[hE,hR]
  refine kQ (zk rfl rfl (zA rfl (zA rfl (zB ?_))))
  refine zH [(1,U.box 0 0)] ([SB.box [.lst .ro 1 (zE (Ln.slots l)),.int .i64 (Ln.left l),.int .i64 (Ln.right l),.int .i64 (Ln.run l)]]) (.n1 rfl) rfl fun fr=>?_
  refine k_seq (kQ (kB sh24 rfl (zN rfl (q56) (.lcons _ _ _ _ (.refl _) (.lcons _ _ _ _ (.nil .full .ro 1) (.lrefl _))) ?_)))
  refine zA rfl (zB (kQ (zC rfl (kr rfl (zB (k_cT rfl rfl ?_))))))
  refine kQ (zC rfl (zA rfl (zA rfl (zB (zV ?_)))))
  refine⟨.inr rfl,_,.cons _ _ _ _ (.tmp 2) (.cons _ _ _ _ (.tmp 3) .nil),?_⟩
  exact .tup _ _ (.lcons _ _ _ _ (.nil .full .ro 1) (.lrefl _))
 |true=>
  have h:=yl.1 hv
  have hn:=h.n
  rw[hv,if_pos rfl]at hE q56
  have q63:=ret63 (orc:=orc) hi h
  cases hb:bstO (splL l)with
  |none=>
   rw[hb]at q63 hE
   have hE:splE l=4:=hE
   rw[hE,if_neg (by decide)]at hR
   rw[hE,hR]
   refine kQ (zk rfl rfl (zA rfl (zA rfl (zB ?_))))
   refine zH [(1,U.box 0 0)] ([SB.box [.lst .ro 1 (zE (Ln.slots l)),.int .i64 (Ln.left l),.int .i64 (Ln.right l),.int .i64 (Ln.run l)]]) (.n1 rfl) rfl fun fr=>?_
   refine k_seq (kQ (kB sh24 rfl (zN rfl (q56) (.lcons _ _ _ _ (.refl _) (.lcons _ _ _ _ (.nil .full .ro 1) (.lrefl _))) ?_)))
   refine zA rfl (zB (kQ (zC rfl (kr rfl (zB (k_cF rfl rfl ?_))))))
   refine zL (kQ (kB sh24 rfl (we rfl ze73 pl73 rfl rfl ?_)))
   refine zN rfl (q63) (.lrefl _) (zC rfl (ku rfl (ku rfl (yL rfl ze85 ?_))))
   refine yY rfl rfl sh85 rfl rfl rfl rfl rfl ?_
   refine zA rfl (zB ?_)
   refine zH [(1,U.box 0 0),(5,U.box 1 0),(6,U.bool (Option.isSome Option.none))] ([SB.box [.lst .ro 1 (zE (Ln.slots l)),.int .i64 (Ln.left l),.int .i64 (Ln.right l),.int .i64 (Ln.run l)],SB.box [U.bool (plF (Option.getD Option.none []) (0:Int) (nat_lit 0)),U.bool (plF (Option.getD Option.none []) (0:Int) (nat_lit 1)),U.bool (plF (Option.getD Option.none []) (0:Int) (nat_lit 2)),U.bool (plF (Option.getD Option.none []) (0:Int) (nat_lit 3)),U.bool (plF (Option.getD Option.none []) (0:Int) (nat_lit 4)),U.bool (plF (Option.getD Option.none []) (0:Int) (nat_lit 5)),U.bool (plF (Option.getD Option.none []) (0:Int) (nat_lit 6)),U.bool (plF (Option.getD Option.none []) (0:Int) (nat_lit 7)),U.bool (plF (Option.getD Option.none []) (0:Int) (nat_lit 8)),U.bool (plF (Option.getD Option.none []) (0:Int) (nat_lit 9)),U.bool (plF (Option.getD Option.none []) (0:Int) (nat_lit 10)),U.bool (plF (Option.getD Option.none []) (0:Int) (nat_lit 11)),U.bool (plF (Option.getD Option.none []) (0:Int) (nat_lit 12)),U.bool (plF (Option.getD Option.none []) (0:Int) (nat_lit 13)),U.bool (plF (Option.getD Option.none []) (0:Int) (nat_lit 14)),U.bool (plF (Option.getD Option.none []) (0:Int) (nat_lit 15)),U.bool (plF (Option.getD Option.none []) (1:Int) (nat_lit 0)),U.bool (plF (Option.getD Option.none []) (1:Int) (nat_lit 1)),U.bool (plF (Option.getD Option.none []) (1:Int) (nat_lit 2)),U.bool (plF (Option.getD Option.none []) (1:Int) (nat_lit 3)),U.bool (plF (Option.getD Option.none []) (1:Int) (nat_lit 4)),U.bool (plF (Option.getD Option.none []) (1:Int) (nat_lit 5)),U.bool (plF (Option.getD Option.none []) (1:Int) (nat_lit 6)),U.bool (plF (Option.getD Option.none []) (1:Int) (nat_lit 7)),U.bool (plF (Option.getD Option.none []) (1:Int) (nat_lit 8)),U.bool (plF (Option.getD Option.none []) (1:Int) (nat_lit 9)),U.bool (plF (Option.getD Option.none []) (1:Int) (nat_lit 10)),U.bool (plF (Option.getD Option.none []) (1:Int) (nat_lit 11)),U.bool (plF (Option.getD Option.none []) (1:Int) (nat_lit 12)),U.bool (plF (Option.getD Option.none []) (1:Int) (nat_lit 13)),U.bool (plF (Option.getD Option.none []) (1:Int) (nat_lit 14)),U.bool (plF (Option.getD Option.none []) (1:Int) (nat_lit 15))]]) (.n3 rfl) rfl fun fr=>?_
   refine k_seq (kQ (zC rfl (yc rfl rfl (zB (k_cT rfl rfl ?_)))))
   refine kQ (zA rfl (zA rfl (zB (zV ?_))))
   refine⟨.inr rfl,_,.cons _ _ _ _ (.tmp 2) (.cons _ _ _ _ (.tmp 3) .nil),?_⟩
   exact .tup _ _ (.lcons _ _ _ _ (.nil .full .ro 1) (.lrefl _))
  |some b=>
   have hpb:=pl_back h (bst_div h hb)
   have q64:=ret64 (orc:=orc) hi (plF b 0) (plF b 1) (n:=l.slots.length) hn.2
   rw[hpb]at q64
   rw[hb]at q63 hE hR
   have hE:splE l=0:=hE
   rw[hE,if_pos rfl]at hR
   rw[hE,hR]
   have q63:RetP Tryd.prog is orc 63 [l.u] (.tup [spE b,.bool true]):=q63
   have q64:RetP Tryd.prog is orc 64 [spE b,.int .i64 l.slots.length] (.lst .ro 1 (zE b)):=q64
   show Wp _ _ _ _ _ _
   have hl:=wd b
   have hone:=zCv (spB b)
   have hBd:=zBU (spB b)
   unfold spE at q63 q64
   show Wp _ _ _ _ _ fun e s=>(e=.normal∨e=.ret)∧∃us,ResL Tryd.prog s _ us∧UW (.u (tupU us)) (.u (.tup [.lst .ro 1 (zE b),.int .i64 0]))
   generalize zK (spB b)=B at*
   refine kQ (zk rfl rfl (zA rfl (zA rfl (zB ?_))))
   refine zH [(1,U.box 0 0)] ([SB.box [.lst .ro 1 (zE (Ln.slots l)),.int .i64 (Ln.left l),.int .i64 (Ln.right l),.int .i64 (Ln.run l)]]) (.n1 rfl) rfl fun fr=>?_
   refine k_seq (kQ (kB sh24 rfl (zN rfl (q56) (.lcons _ _ _ _ (.refl _) (.lcons _ _ _ _ (.nil .full .ro 1) (.lrefl _))) ?_)))
   refine zA rfl (zB (kQ (zC rfl (kr rfl (zB (k_cF rfl rfl ?_))))))
   refine zL (kQ (kB sh24 rfl (we rfl ze73 pl73 rfl rfl ?_)))
   refine zN rfl (q63) (.lrefl _) (zC rfl (ku rfl (ku rfl (yL rfl ze85 ?_))))
   refine zBE rfl (wI _ _) sh85 rfl hl rfl rfl hone hBd ?_
   refine zA rfl (zB ?_)
   refine zH [(1,U.box 0 0),(5,U.box 1 0),(6,.bool true)] ([SB.box [.lst .ro 1 (zE (Ln.slots l)),.int .i64 (Ln.left l),.int .i64 (Ln.right l),.int .i64 (Ln.run l)],SB.box B]) (.n3 rfl) rfl fun fr=>?_
   refine k_seq (kQ (zC rfl (yc rfl rfl (zB (k_cF rfl rfl ?_)))))
   refine zL (kQ (yn rfl rfl rfl sh85 hl ?_))
   refine kw rfl zS (kA sh22 rfl (zq rfl ty22 rfl (List.length_map _) ?_))
   refine zN rfl (q64) (.lrefl _) (zA rfl (zA rfl (zB (zV ?_))))
   refine⟨.inr rfl,_,.cons _ _ _ _ (.tmp 2) (.cons _ _ _ _ (.tmp 3) .nil),?_⟩
   exact .refl _
   done
end
end Go.Proofs.YthhbfbmfhldbaaaDoor.locks
