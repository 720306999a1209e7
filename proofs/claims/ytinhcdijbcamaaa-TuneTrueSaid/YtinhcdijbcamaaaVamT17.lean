import Derived.Test.YtinhcdijbcamaaaVamT16
set_option linter.unusedVariables false
set_option linter.unusedSimpArgs false
set_option linter.constructorNameAsVariable false
namespace Go.Proofs.Ytinhcdijbcamaaa.tuneTrue
open Vam
section
variable {is:FuncId→Bool}{orc:Known}
noncomputable def b98:Code:=(Try.f98.body).getD .skip
theorem body98:bodyOf Try.prog 98=some (27,b98,[.cell 4 84]):=by kernel_rfl
theorem pure98:pureFn Try.prog 98=true:=by kernel_rfl
noncomputable def b99:Code:=(Try.f99.body).getD .skip
theorem body99:bodyOf Try.prog 99=some (8,b99,[.tmp 2]):=by kernel_rfl
theorem pure99:pureFn Try.prog 99=false:=by kernel_rfl
variable {t:Ts}{J:List Jn}{v x:Int}{st:List SB}
theorem ret109(hi:Off is){j:Jn}(h1:0≤j.one∧j.one<8)(h2:0≤j.two∧j.two<8)(f:Nat→Bool):RetP Try.prog is orc 109 [j.u,.agg (bl8 f)] (.bool (f j.one.toNat||f j.two.toNat)):=by
 refine yE body109 pure109 (hi 109 (by decide)) rfl rfl (yZ (zEj j 6) (zCh f 6)) (.inl (.bool _ _)) ?_
 have ha:=bl8_at f h1
 have hb:=bl8_at f h2
 cases hc:f j.one.toNat with
 |true=>
  rw[hc]at ha
  refine kQ (yA rfl rfl (yA rfl rfl (zC rfl (zA ?_))))
  refine zK [(2,U.box 0 0),(3,U.box 1 0)] ([SB.box [.int .i64 j.kd,.int .i64 j.one,.int .i64 j.two,.int .i64 j.lo,.int .i64 j.hi],SB.box [U.bool (f 0),U.bool (f 1),U.bool (f 2),U.bool (f 3),U.bool (f 4),U.bool (f 5),U.bool (f 6),U.bool (f 7)]]) (.cons rfl (.cons rfl (.nil rfl))) rfl fun fr=>?_
  refine kQ (zE rfl rfl zDO (zF rfl rfl rfl sh3 rfl (wC rfl zCC rfl rfl (by omega) (by omega) cl4 ?_)))
  refine zF rfl rfl rfl sh4 ha ?_
  refine zB rfl (o_gS rfl rfl rfl rfl rfl (o_gS rfl rfl rfl rfl rfl (o_gS rfl rfl rfl rfl rfl (o_gS rfl rfl rfl rfl rfl (zd rfl rfl rfl ?_)))))
  refine zC rfl (zA (zb ?_))
  refine⟨.inr rfl,_,.cons _ _ _ _ (.tmp 4) .nil,?_⟩
  exact .refl _
 |false=>
  rw[hc]at ha
  rw[Bool.false_or]
  refine kQ (yA rfl rfl (yA rfl rfl (zC rfl (zA ?_))))
  refine zK [(2,U.box 0 0),(3,U.box 1 0)] ([SB.box [.int .i64 j.kd,.int .i64 j.one,.int .i64 j.two,.int .i64 j.lo,.int .i64 j.hi],SB.box [U.bool (f 0),U.bool (f 1),U.bool (f 2),U.bool (f 3),U.bool (f 4),U.bool (f 5),U.bool (f 6),U.bool (f 7)]]) (.cons rfl (.cons rfl (.nil rfl))) rfl fun fr=>?_
  refine kQ (zE rfl rfl zDO (zF rfl rfl rfl sh3 rfl (wC rfl zCC rfl rfl (by omega) (by omega) cl4 ?_)))
  refine zF rfl rfl rfl sh4 ha ?_
  refine zB rfl (o_gD rfl rfl rfl rfl rfl (zE rfl rfl zBc (o_gD rfl rfl rfl rfl rfl (zF rfl rfl rfl sh3 rfl (o_gD rfl rfl rfl rfl rfl (wC rfl zCC rfl rfl (by omega) (by omega) cl4 ?_))))))
  refine o_gD rfl rfl rfl rfl rfl (zF rfl rfl rfl sh4 hb ?_)
  refine zh rfl rfl rfl ?_
  refine zC rfl (zA (zb ?_))
  refine⟨.inr rfl,_,.cons _ _ _ _ (.tmp 4) .nil,?_⟩
  exact .refl _
def keepB(f:Nat→Bool)(j:Jn):Bool:= !(f j.one.toNat||f j.two.toNat)
def outJ(J:List Jn)(f:Nat→Bool):List Jn:=J.filter (keepB f)
theorem outJ_take{f:Nat→Bool}{n:Nat}{j:Jn}(h:J[n]? =some j):outJ (J.take (n+1)) f=outJ (J.take n) f++(if keepB f j=true then [j]else []):=by
 unfold outJ
 rw[List.take_add_one,h,List.filter_append]
 congr 1
 cases hc:keepB f j<;>simp[hc]
set_option maxHeartbeats 8000000 in
theorem ret98(hi:Off is)(hl:J.length≤64)(hr:∀j∈J,(0≤j.one∧j.one<8)∧(0≤j.two∧j.two<8))(f:Nat→Bool):RetP Try.prog is orc 98 [.agg (setC t J),.agg (bl8 f)] (.agg (setC t (outJ J f))):=by
 refine yE body98 pure98 (hi 98 (by decide)) rfl rfl (yZ (zBJ t J 4) (zCh f 6)) (.inl (zBJ t _ 4)) ?_
 refine kQ (yA rfl rfl (yA rfl rfl (zT rfl ze84 ?_)))
 refine zA ?_
 refine zK [(2,U.box 0 0),(3,U.box 1 0),(4,U.box 2 0)] ([SB.box [.lst .ro 2 (zV t.heard),.lst .ro 2 (yn t.scales),.lst .ro 2 (zV t.pairs),.int .i64 t.lo,.int .i64 t.hi,.lst .ro 5 (jnsU J)],SB.box [U.bool (f 0),U.bool (f 1),U.bool (f 2),U.bool (f 3),U.bool (f 4),U.bool (f 5),U.bool (f 6),U.bool (f 7)],SB.box [.lst .full 0 [],.lst .full 0 [],.lst .full 0 [],.int .i64 0,.int .i64 0,.lst .full 0 []]]) (.cons rfl (.cons rfl (.cons rfl (.nil rfl)))) rfl fun fr=>?_
 refine kQ (zC rfl (zA (k_seq (kQ (zE rfl rfl fld84_1 (zF rfl rfl rfl sh70 rfl (zw rfl ty70 rfl (List.length_map _) ?_)))))))
 refine zB rfl (zA (zN ?_))
 obtain⟨V,hV⟩:∃V:List SB,V=[.box (setC t J),.box (bl8 f),.box z6]:=⟨_,rfl⟩
 refine yg (fun kk s2=>∃n:Nat,kk+n=J.length∧(∃e,s2.st=V++e)∧Holds s2 [(2,.box 0 0),(3,.box 1 0),(4,.box 2 0),(5,accJ (outJ (J.take n) f)),(9,.lst .ro 5 (jnsU J)),(10,.int .i64 J.length),(11,.int .i64 n)]) (fun kk s2 hI=>?_) J.length _ ⟨0,rfl,⟨[],by rw[hV];rfl⟩,.c4 rfl rfl rfl rfl (.cons rfl (.cons rfl (.cons rfl (.nil rfl))))⟩
 obtain⟨n,hk,⟨e,hst⟩,hs⟩:=hI
 have v0:V[0]? =some (.box (setC t J)):=by rw[hV];rfl
 have v1:V[1]? =some (.box (bl8 f)):=by rw[hV];rfl
 have v2:V[2]? =some (.box z6):=by rw[hV];rfl
 generalize hY:V++e=Y at hst
 have y0:Y[0]? =some (.box (setC t J)):=by rw[←hY];exact zg v0
 have y1:Y[1]? =some (.box (bl8 f)):=by rw[←hY];exact zg v1
 have y2:Y[2]? =some (.box z6):=by rw[←hY];exact zg v2
 refine zK _ _ hs hst fun fr=>?_
 obtain⟨M,hM⟩:∃M,M=outJ (J.take n) f:=⟨_,rfl⟩
 have hMl:M.length≤64:=by rw[hM];unfold outJ;exact Nat.le_trans (List.length_filter_le _ _) (by rw[List.length_take];omega)
 by_cases hn:n<J.length
 ·obtain⟨j,hj⟩:∃j,J[n]? =some j:=⟨J[n],List.getElem?_eq_getElem hn⟩
  obtain⟨ra,rb⟩:=hr j (List.mem_of_getElem? hj)
  have hM2:=outJ_take (f:=f) hj
  have q109:=ret109 (orc:=orc) hi ra rb f
  rw[←hM]at hM2
  rw[←hM]
  unfold keepB at hM2
  cases hc:(f j.one.toNat||f j.two.toNat)with
  |true=>
   rw[hc]at q109 hM2
   rw[show(if(!true)=true then [j]else [])=([]:List Jn)from rfl,List.append_nil]at hM2
   refine kQ (zf rfl rfl rfl (zA (k_seq (k_cT rfl (decide_eq_true (by omega)) (zQ (k_seq (zN (kQ ?_))))))))
   refine zq (u:=(j).u) rfl ty70 rfl rfl (Int.natCast_nonneg _) (by simp[hj]) cl72 ?_
   refine zo rfl rfl sh72 rfl ?_
   refine zT rfl ze72 ?_
   refine zJ rfl (zX _ _) sh72 rfl rfl rfl rfl rfl ?_
   refine zA ?_
   refine zK [(2,U.box 0 0),(3,U.box 1 0),(4,U.box 2 0),(5,accJ M),(7,U.box (List.length Y) 0),(9,.lst .ro 5 (jnsU J)),(10,.int .i64 ↑(List.length J)),(11,.int .i64 ↑n)] (Y++[SB.box [.int .i64 j.kd,.int .i64 j.one,.int .i64 j.two,.int .i64 j.lo,.int .i64 j.hi]]) (.c4 rfl rfl rfl rfl (.c4 rfl rfl rfl rfl (.nil rfl))) (yC _ _ _) fun fr=>?_
   refine kQ (zH rfl rfl (zX _ _) sh72 rfl ?_)
   refine zH rfl rfl (zg y1) zAc rfl ?_
   refine zP rfl (q109) (.lrefl _) (wS rfl rfl (zA (k_cF rfl rfl ?_)))
   refine zQ (k_region ?_)
   refine yT rfl rfl rfl (by unfold I64;omega) (zB rfl (zA ?_))
   exact⟨kk - 1,by omega,n+1,by omega,⟨_,by show Y++_=_;rw[←hY,List.append_assoc]⟩,.cons rfl (.cons rfl (.cons rfl (.cons (by rw[hM2];rfl) (.cons rfl (.cons rfl (.cons rfl (.nil rfl)))))))⟩
  |false=>
   rw[hc]at q109 hM2
   rw[show(if(!false)=true then [j]else [])=[j]from rfl]at hM2
   cases M with
   |nil=>
    refine kQ (zf rfl rfl rfl (zA (k_seq (k_cT rfl (decide_eq_true (by omega)) (zQ (k_seq (zN (kQ ?_))))))))
    refine zq (u:=(j).u) rfl ty70 rfl rfl (Int.natCast_nonneg _) (by simp[hj]) cl72 ?_
    refine zo rfl rfl sh72 rfl ?_
    refine zT rfl ze72 ?_
    refine zJ rfl (zX _ _) sh72 rfl rfl rfl rfl rfl ?_
    refine zA ?_
    refine zK [(2,U.box 0 0),(3,U.box 1 0),(4,U.box 2 0),(5,accJ []),(7,U.box (List.length Y) 0),(9,.lst .ro 5 (jnsU J)),(10,.int .i64 ↑(List.length J)),(11,.int .i64 ↑n)] (Y++[SB.box [.int .i64 j.kd,.int .i64 j.one,.int .i64 j.two,.int .i64 j.lo,.int .i64 j.hi]]) (.c4 rfl rfl rfl rfl (.c4 rfl rfl rfl rfl (.nil rfl))) (yC _ _ _) fun fr=>?_
    refine kQ (zH rfl rfl (zX _ _) sh72 rfl ?_)
    refine zH rfl rfl (zg y1) zAc rfl ?_
    refine zP rfl (q109) (.lrefl _) (wS rfl rfl (zA (k_cT rfl rfl ?_)))
    refine k_region (zB rfl (zH rfl rfl (zX _ _) sh72 rfl ?_))
    refine zBA (es:=[U.agg [.int .i64 (Jn.kd j),.int .i64 (Jn.one j),.int .i64 (Jn.two j),.int .i64 (Jn.lo j),.int .i64 (Jn.hi j)]]) rfl ty70 ze72 cl72 rfl rfl rfl rfl rfl rfl rfl rfl ?_
    refine wu rfl zFU rfl rfl (by simp) (by simp) (by simp[zn,zi,oneU]) (by simp) ?_
    refine zC rfl (zA (k_region ?_))
    refine yT rfl rfl rfl (by unfold I64;omega) (zB rfl (zA ?_))
    exact⟨kk - 1,by omega,n+1,by omega,⟨_,by show Y++_=_;rw[←hY,List.append_assoc]⟩,.cons rfl (.cons rfl (.cons rfl (.cons (by rw[hM2];rfl) (.cons rfl (.cons rfl (.cons rfl (.nil rfl)))))))⟩
   |cons y M=>
    refine kQ (zf rfl rfl rfl (zA (k_seq (k_cT rfl (decide_eq_true (by omega)) (zQ (k_seq (zN (kQ ?_))))))))
    refine zq (u:=(j).u) rfl ty70 rfl rfl (Int.natCast_nonneg _) (by simp[hj]) cl72 ?_
    refine zo rfl rfl sh72 rfl ?_
    refine zT rfl ze72 ?_
    refine zJ rfl (zX _ _) sh72 rfl rfl rfl rfl rfl ?_
    refine zA (kQ (zH rfl rfl (zCw _ _ _) sh72 rfl ?_))
    refine zH rfl rfl (at_ps y1 (Nat.le_refl _)) zAc rfl ?_
    refine zP rfl (q109) (.lrefl _) (wS rfl rfl (zA (k_cT rfl rfl ?_)))
    refine k_region (zB rfl (zH rfl rfl (zCw _ _ _) sh72 rfl ?_))
    refine zBA (es:=[U.agg [.int .i64 (Jn.kd j),.int .i64 (Jn.one j),.int .i64 (Jn.two j),.int .i64 (Jn.lo j),.int .i64 (Jn.hi j)]]) rfl ty70 ze72 cl72 rfl rfl rfl rfl rfl rfl rfl rfl ?_
    refine zCH 5 rfl zFU rfl rfl rfl (by simp) (by simp) (by simp[zn,zi,oneU]) (by simp at hMl ⊢;omega) ?_
    refine zC rfl (zA (k_region ?_))
    refine yT rfl rfl rfl (by unfold I64;omega) (zB rfl (zA ?_))
    exact⟨kk - 1,by omega,n+1,by omega,⟨_,by show(Y++[_]).set Y.length _=_;rw[yC,←hY,List.append_assoc]⟩,.cons rfl (.cons rfl (.cons rfl (.cons (by rw[hM2,zHR];rfl) (.cons rfl (.cons rfl (.cons rfl (.nil rfl)))))))⟩
 ·have hn:n=J.length:=by omega
  subst hn
  rw[List.take_length]at hM ⊢
  rw[←hM]
  cases M with
  |nil=>
   refine kQ (zf rfl rfl rfl (zA (k_seq (k_cF rfl (decide_eq_false (by omega)) (yO (kQ (zB rfl (zE rfl rfl fld84_1 ?_))))))))
   refine yU rfl y0 sh70 rfl rfl ?_
   refine zA ?_
   refine zK [(2,U.box 0 0),(4,U.box 2 0)] (List.set Y 0 (SB.box (List.set (setC t J) (0+5) (.lst .full 0 [])))) (.cons rfl (.cons rfl (.nil rfl))) rfl fun fr=>?_
   refine kQ (zH rfl rfl (at_put y0) sh84 rfl ?_)
   refine zJ rfl (yu y2 (by decide)) sh84 rfl rfl rfl rfl rfl ?_
   refine zA (zb ?_)
   refine⟨.inr rfl,_,.cons _ _ _ _ (.cellN 4 84 _ _ _ _ rfl (at_put (yu y2 (by decide))) sh84 rfl) .nil,?_⟩
   exact .agg _ _ (.lcons _ _ _ _ (.refl _) (.lcons _ _ _ _ (.refl _) (.lcons _ _ _ _ (.refl _) (.lcons _ _ _ _ (.refl _) (.lcons _ _ _ _ (.refl _) (.lcons _ _ _ _ (.nil .full .ro 5) (.lrefl _)))))))
  |cons y M=>
   refine kQ (zf rfl rfl rfl (zA (k_seq (k_cF rfl (decide_eq_false (by omega)) (yO (kQ (zB rfl (zE rfl rfl fld84_1 ?_))))))))
   refine yU rfl y0 sh70 rfl rfl ?_
   refine zA ?_
   refine zK [(2,U.box 0 0),(4,U.box 2 0)] (List.set Y 0 (SB.box (List.set (setC t J) (0+5) (.lst .ro 5 (jnsU (y::M)))))) (.cons rfl (.cons rfl (.nil rfl))) rfl fun fr=>?_
   refine kQ (zH rfl rfl (at_put y0) sh84 rfl ?_)
   refine zJ rfl (yu y2 (by decide)) sh84 rfl rfl rfl rfl rfl ?_
   refine zA (zb ?_)
   refine⟨.inr rfl,_,.cons _ _ _ _ (.cellN 4 84 _ _ _ _ rfl (at_put (yu y2 (by decide))) sh84 rfl) .nil,?_⟩
   exact .refl _
end
section
variable {is:FuncId→Bool}{orc:Known}
theorem sh120:shOf Try.prog 120=.one:=by kernel_rfl
noncomputable def b97:Code:=(Try.f97.body).getD .skip
theorem body97:bodyOf Try.prog 97=some (61,b97,[.tmp 9]):=by kernel_rfl
theorem pure97:pureFn Try.prog 97=false:=by kernel_rfl
variable {t:Ts}{J:List Jn}{fo se le:Nat}{st Y Z:List SB}
theorem wpc99(l:List Int)(hl:l.length≤4096)(st:List SB):WpC Try.prog is orc 99 [.lst .ro 1 (zO l)] st fun u st'=>u=.lst .ro 1 (zO l)∧st'=st:=by
 refine zGP body99 pure99 rfl rfl ?_
 refine kQ (zC rfl (zA (k_seq (kQ (zB rfl ?_)))))
 refine o_eqNil rfl ty29 rfl (fun _=>rfl) fun b hb=>?_
 refine zA ?_
 refine k_cond rfl (fun h4=>?_) (fun h4=>?_)
 ·obtain rfl:l=[]:=by
   cases l with
   |nil=>rfl
   |cons x l=>have:=hb (fun h=>by cases h);subst this;cases h4
  refine kQ (zC rfl (zA (zb ?_)))
  refine⟨.inr rfl,_,.cons _ _ _ _ (.tmp 2) .nil,?_⟩
  exact⟨.lst .ro 1 [],.nil .full .ro 1,rfl,rfl⟩
 ·refine zQ ?_
  refine kQ (zBA (es:=[]) rfl ty29 ze3 cl3 rfl rfl rfl rfl rfl rfl rfl rfl ?_)
  refine zB rfl ?_
  refine wu rfl zCA rfl rfl (by simp) (by simp) (by simp[zn,zi,oneU]) (by simp;omega) ?_
  refine zC rfl (zA (zb ?_))
  refine⟨.inr rfl,_,.cons _ _ _ _ (.tmp 2) .nil,?_⟩
  exact⟨.lst .ro 1 (zO l),.ro _ _ _,rfl,rfl⟩
theorem Acy.sub{F:Es}(h:Acy F):∀{E:Es},List.Sublist E F→Acy E:=by
 induction h with
 |nil=>intro E hs;rw[List.sublist_nil.1 hs];exact .nil
 |@snoc F a b h hn ih=>
  intro E hs
  obtain⟨l1,l2,rfl,h1,h2⟩:=List.sublist_append_iff.1 hs
  cases h2<;>rename_i h3
  ·rw[List.sublist_nil.1 h3,List.append_nil];exact ih h1
  ·rw[List.sublist_nil.1 h3];exact .snoc (ih h1) fun hc=>hn (hc.mono fun e he=>h1.subset he)
theorem outJ_mem{f:Nat→Bool}{j:Jn}:j∈outJ J f↔j∈J∧keepB f j=true:=List.mem_filter
theorem SOk.out(h:SOk t J)(f:Nat→Bool):SOk t (outJ J f):=
 ⟨h.n1,h.n8,h.hd,fun j hj=>h.jv j (outJ_mem.1 hj).1,fun j hj=>h.jr j (outJ_mem.1 hj).1,Nat.le_trans (List.length_filter_le _ _) h.jl,h.ac.sub (List.Sublist.map _ List.filter_sublist)⟩
def outB(t:Ts)(J:List Jn)(L:List Int):Bool:=tunB t (outJ J (metB L))
def fstK(L:List Int):Int:=match L.getLast? with|some k=>k+1|none=>0
def zAe(t:Ts)(J:List Jn):Nat→List Int→Option (List Int)
 |0,L=>if outB t J L=true then some L else none
 |m+1,L=>(List.range ((t.heard.length:Int) - fstK L).toNat).findSome? fun i:Nat=>zAe t J m (L++[fstK L+i])
structure LK(L:List Int)(n:Nat):Prop where
 r:∀x∈L,0≤x∧x<(n:Int)
 nd:L.Nodup
 f0:0≤fstK L
 lt:∀x∈L,x<fstK L
theorem zEe(L:List Int)(k:Int):fstK (L++[k])=k+1:=by unfold fstK;rw[List.getLast?_concat]
theorem LK.snoc{L:List Int}{n:Nat}(h:LK L n){k:Int}(h1:fstK L≤k)(h2:k<(n:Int)):LK (L++[k]) n:=by
 have:=h.f0
 refine⟨fun x hx=>?_,List.nodup_append.2 ⟨h.nd,by simp,fun a ha b hb=>?_⟩,by rw[zEe];omega,fun x hx=>?_⟩
 ·rcases List.mem_append.1 hx with hx|hx
  ·exact h.r x hx
  ·rcases List.mem_singleton.1 hx with rfl;omega
 ·rcases List.mem_singleton.1 hb with rfl;have:=h.lt a ha;omega
 ·rw[zEe]
  rcases List.mem_append.1 hx with hx|hx
  ·have:=h.lt x hx;omega
  ·rcases List.mem_singleton.1 hx with rfl;omega
theorem LK.len{L:List Int}{n:Nat}(h:LK L n)(hn:n≤8):L.length≤8:=zDa 8 L h.nd fun x hx=>by have:=h.r x hx;omega
theorem metB_snoc(L:List Int){k:Int}(hk:0≤k):updB (metB L) k.toNat true=metB (L++[k]):=by
 funext i
 unfold updB metB
 by_cases e:i=k.toNat
 ·subst e
  rw[if_pos rfl]
  exact(decide_eq_true (by rw[show((k.toNat:Nat):Int)=k by omega];simp)).symm
 ·rw[if_neg e,decide_eq_decide,List.mem_append,List.mem_singleton]
  exact⟨.inl,fun h=>h.resolve_right (by omega)⟩
structure LV(t:Ts)(J:List Jn)(fo se le:Nat)(Y:List SB):Prop where
 f:∃F,Y[fo]? =some (.box [F])
 s:Y[se]? =some (.box (setC t J))
 l:Y[le]? =some (.box [.fn 97 [] [.box fo 0,.box se 0,.box le 0]])
 bd:BdY Y
 n1:fo≠se
 n2:fo≠le
theorem LV.snoc(h:LV t J fo se le Y){x:SB}(hx:NBS x):LV t J fo se le (Y++[x]):=by
 obtain⟨F,hF⟩:=h.f
 exact⟨⟨F,zg hF⟩,zg h.s,zg h.l,h.bd.snoc hx,h.n1,h.n2⟩
theorem nbs_ints(k:Kd)(hk:k≠.own)(K:List Int):NBS (.box [.lst k 1 (zO K)]):=⟨_,rfl,fun c hc=>by
 rcases List.mem_singleton.1 hc with rfl
 exact(wT 6 k hk 1 K).nb⟩
theorem LV.put(h:LV t J fo se le Y)(K:List Int):LV t J fo se le (Y.set fo (.box [.lst .full 1 (zO K)])):=by
 obtain⟨F,hF⟩:=h.f
 exact⟨⟨_,at_put hF⟩,yu h.s h.n1,yu h.l h.n2,h.bd.put ((nbs_ints .full (fun h=>by cases h) K).bd _),h.n1,h.n2⟩
theorem nbs_bl8(f:Nat→Bool):NBS (.box (bl8 f)):=⟨_,rfl,fun c hc=>((zCh f 6) |> fun h=>by cases h with|agg _ _ h=>exact(h c hc).nb)⟩
theorem d_callVE{P:Program}{s:St}{all:List Oper}{l:List (Oper×M0)}{d:Option Nat}{g:FuncId}{xs:Array Operand}{ts:Array TypeId}{t:TypeId}{p:String}{e:Array Edge}{args:List U}{M:U→List SB→Prop}{Q:St→Prop}{x:Nat}{A B:List U}(hd:zAz 1024 d=true)
  (hx:s.slot x=.fn g A B) (hw:WpC P is orc g args s.st M) (hle:UW (.l (A++(zCt s xs.toList++B))) (.l args)) (k:∀u st',M u st'→WpD P is orc all l ((⟨s.fr,[],st'⟩:St).dst d u) Q):WpD P is orc all ((⟨d,.call ⟨.value (.tmp x),xs,ts⟩,t,p,e,none⟩,.plain)::l) s Q:=
 d_plainE (fun s1=>∃u st',M u st'∧s1=(⟨s.fr,[],st'⟩:St).dst d u) (zEy hd hx hw hle fun u st' hM=>zA ⟨u,st',hM,rfl⟩) fun s1 ⟨u,st',hM,e⟩=>by subst e;exact k u st' hM
def Tk(fo:Nat)(Y Z:List SB):Prop:=Z=Y∨∃K:List Int,Z=Y.set fo (.box [.lst .full 1 (zO K)])
theorem Tk.lv(h:LV t J fo se le Y)(k:Tk fo Y Z):LV t J fo se le Z:=by
 rcases k with rfl|⟨K,rfl⟩
 ·exact h
 ·exact h.put K
theorem Tk.trans{A:List SB}(h:Tk fo Y Z)(k:Tk fo Z A):Tk fo Y A:=by
 rcases k with rfl|⟨K,rfl⟩
 ·exact h
 ·rcases h with rfl|⟨K',rfl⟩
  ·exact .inr ⟨K,rfl⟩
  ·exact .inr ⟨K,by rw[List.set_set]⟩
theorem Tk.take{n:Nat}(h:Tk fo Y Z):Tk fo (Y.take n) (Z.take n):=by
 rcases h with rfl|⟨K,rfl⟩
 ·exact .inl rfl
 ·exact .inr ⟨K,by rw[List.take_set]⟩
theorem Tk.off(h:Tk fo Y Z){i:Nat}{x:SB}(hx:Y[i]? =some x)(hi:fo≠i):Z[i]? =some x:=by
 rcases h with rfl|⟨K,rfl⟩
 ·exact hx
 ·exact yu hx hi
theorem Tk.len(h:Tk fo Y Z):Z.length=Y.length:=by
 rcases h with rfl|⟨K,rfl⟩
 ·rfl
 ·exact List.length_set
def LvQ(t:Ts)(J:List Jn)(fo m:Nat)(L:List Int)(st:List SB)(u:U)(st':List SB):Prop:=match zAe t J m L with
 |some K=>u=.bool true∧st'=st.set fo (.box [.lst .full 1 (zO K)])
 |none=>u=.bool false∧Tk fo st st'
structure LI(t:Ts)(J:List Jn)(fo se le:Nat)(st:List SB)(L:List Int)(Y:List SB):Prop where
 lv:LV t J fo se le Y
 tk:Tk fo st (Y.take st.length)
 a0:Y[st.length]? =some (.box (bl8 (metB L)))
theorem LI.done{L:List Int}(h:LI t J fo se le st L Y)(K:List Int)(b1:SB):((Y++[b1]).set fo (.box [.lst .full 1 (zO K)])).take st.length=st.set fo (.box [.lst .full 1 (zO K)]):=by
 have hl:=zFT h.a0
 rw[List.take_set,List.take_append_of_le_length (by omega)]
 rcases h.tk with e|⟨K',e⟩<;>rw[e]
 rw[List.set_set]
theorem zFI{α:Type}{f:Nat→Option α}{N i:Nat}{K:α}(hi:i<N)(h:f i=some K)(hno:∀j,j<i→f j=none):(List.range N).findSome? f=some K:=by
 rw[List.findSome?_eq_some_iff]
 refine⟨List.range i,i,(List.range (N - i - 1)).map fun j=>i+1+j,?_,h,fun j hj=>hno j (List.mem_range.1 hj)⟩
 have e:N=i+(1+(N - i - 1)):=by omega
 rw[e,List.range_add,show i+(1+(N - i - 1)) - i - 1=N - i - 1 by omega]
 congr 1
 rw[List.range_add,List.map_append]
 simp[Nat.add_assoc]
theorem zHx{α:Type}{f:Nat→Option α}{N:Nat}(hno:∀j,j<N→f j=none):(List.range N).findSome? f=none:=
 List.findSome?_eq_none_iff.2 fun j hj=>hno j (List.mem_range.1 hj)
set_option maxHeartbeats 16000000 in
theorem wpc97(h:SOk t J):∀(m:Nat) (is:FuncId→Bool) (orc:Known),Off is→m≤100→∀(L:List Int) (st:List SB),LK L t.heard.length→LV t J fo se le st→
  WpC Try.prog is orc 97 [.lst .ro 1 (zO L),.agg (bl8 (metB L)),.int .i64 m,.box fo 0,.box se 0,.box le 0] st (LvQ t J fo m L st):=by
 intro m
 induction m with
 |zero=>
  intro is orc hi _ L st hL hV
  obtain⟨F,hF⟩:=hV.f
  have hs:=hV.s
  have hlt:fo<st.length:=zFT hF
  have hL8:=hL.len h.n8
  have q98:=ret98 (orc:=orc) (t:=t) hi h.jl (fun j hj=>by have:=h.jr j hj;have:=h.n8;omega) (metB L)
  have q65:=ret65 (orc:=orc) hi (h.out (metB L))
  refine wpc_cut body97 pure97 rfl rfl ?_
  refine kQ (yA rfl rfl (zC rfl (zA ?_)))
  refine zK [(0,.lst .ro 1 (zO L)),(2,.int .i64 ↑0),(3,U.box fo 0),(4,U.box se 0),(5,U.box le 0),(7,U.box (List.length st) 0)] (st++[SB.box [U.bool (metB L 0),U.bool (metB L 1),U.bool (metB L 2),U.bool (metB L 3),U.bool (metB L 4),U.bool (metB L 5),U.bool (metB L 6),U.bool (metB L 7)]]) (.c4 rfl rfl rfl rfl (.cons rfl (.cons rfl (.nil rfl)))) rfl fun fr=>?_
  refine k_seq (kQ (zB rfl (zBB rfl rfl rfl (zA (k_cT rfl rfl ?_)))))
  refine kQ (zB rfl (zB rfl (zw rfl ty29 rfl (List.length_map _) ?_)))
  refine zB rfl (zw rfl ty29 rfl (List.length_map _) ?_)
  refine o_slice0 rfl ty29 cl3 rfl (by simp) rfl rfl (by simp) ?_
  refine yU rfl (zg hF) sh29 rfl rfl ?_
  refine zA ?_
  refine zK [(4,U.box se 0),(7,U.box (List.length st) 0)] (List.set (st++[SB.box [U.bool (metB L 0),U.bool (metB L 1),U.bool (metB L 2),U.bool (metB L 3),U.bool (metB L 4),U.bool (metB L 5),U.bool (metB L 6),U.bool (metB L 7)]]) fo (SB.box [.lst .full 1 (List.take (List.length L) (zO L))])) (.cons rfl (.cons rfl (.nil rfl))) rfl fun fr=>?_
  have z1:=yu (y:=SB.box [U.lst Kd.full 1 (List.take (List.length L) (zO L))]) (zg (m:=[SB.box (bl8 (metB L))]) hs) hV.n1
  have z2:=yu (y:=SB.box [U.lst Kd.full 1 (List.take (List.length L) (zO L))]) (zX st (SB.box (bl8 (metB L)))) (Nat.ne_of_lt hlt)
  refine kQ (zH rfl rfl z1 sh84 rfl ?_)
  refine zH rfl rfl z2 zAc rfl ?_
  refine zP rfl (q98) (.lrefl _) (zP rfl (q65) (.lrefl _) (zC rfl (zA (zb ?_))))
  refine⟨.inr rfl,_,.cons _ _ _ _ (.tmp 9) .nil,?_⟩
  have hset:((st++[SB.box (bl8 (metB L))]).set fo (SB.box [U.lst Kd.full 1 (List.take L.length (zO L))])).take st.length=st.set fo (.box [.lst .full 1 (zO L)]):=by
   rw[show List.take L.length (zO L)=zO L from List.take_of_length_le (by rw[List.length_map];exact Nat.le_refl _),List.set_append_left _ _ hlt,List.take_left' (by simp)]
  refine⟨.bool (outB t J L),.refl _,Bd.bool _ _,?_,?_,?_⟩
  ·show st.length≤((st++[SB.box (bl8 (metB L))]).set fo _).length
   simp
  ·show ∀x∈((st++[SB.box (bl8 (metB L))]).set fo (SB.box [U.lst Kd.full 1 (List.take L.length (zO L))])).take st.length,BdS st.length x
   rw[hset]
   have:=(hV.put L).bd
   unfold BdY at this
   rwa [List.length_set]at this
  ·show LvQ t J fo 0 L st (.bool (outB t J L)) (((st++[SB.box (bl8 (metB L))]).set fo (SB.box [U.lst Kd.full 1 (List.take L.length (zO L))])).take st.length)
   rw[hset]
   unfold LvQ zAe
   cases hc:outB t J L with
   |true=>exact⟨rfl,rfl⟩
   |false=>exact⟨rfl,.inr ⟨L,rfl⟩⟩
 |succ m ih=>
  intro is orc hi hm L st hL hV
  have hL8:=hL.len h.n8
  have hn8:=h.n8
  have hf0:=hL.f0
  obtain⟨F,hF⟩:=hV.f
  have hlt:fo<st.length:=zFT hF
  refine wpc_cut body97 pure97 rfl rfl ?_
  refine kQ (yA rfl rfl (zC rfl (zA ?_)))
  refine zK [(0,.lst .ro 1 (zO L)),(2,.int .i64 ↑(m+1)),(3,U.box fo 0),(4,U.box se 0),(5,U.box le 0),(7,U.box (List.length st) 0)] (st++[SB.box [U.bool (metB L 0),U.bool (metB L 1),U.bool (metB L 2),U.bool (metB L 3),U.bool (metB L 4),U.bool (metB L 5),U.bool (metB L 6),U.bool (metB L 7)]]) (.c4 rfl rfl rfl rfl (.cons rfl (.cons rfl (.nil rfl)))) rfl fun fr=>?_
  refine k_seq (kQ (zB rfl (zBB rfl rfl rfl (zA (k_cF rfl (decide_eq_false (by omega)) (zQ (kQ (zC rfl ?_))))))))
  refine zA ?_
  refine k_cut (fun s2=>s2.st=st++[.box (bl8 (metB L))]∧Holds s2 [(0,.lst .ro 1 (zO L)),(2,.int .i64 ((m+1:Nat):Int)),(3,.box fo 0),(4,.box se 0),(5,.box le 0),(7,.box st.length 0),(10,.int .i64 (fstK L))]) ?_ (fun s2 hM=>?_)
  ·cases hgl:L.getLast? with
   |none=>
    have hLn:L=[]:=List.getLast?_eq_none_iff.1 hgl
    subst hLn
    refine kQ (zB rfl (zw rfl ty29 rfl (List.length_map _) ?_))
    refine zHY rfl rfl rfl (zA (k_cF rfl rfl ?_))
    refine zQ ?_
    exact⟨rfl,rfl,.c4 rfl rfl rfl rfl (.cons rfl (.cons rfl (.cons rfl (.nil rfl))))⟩
   |some k=>
    have hfk:fstK L=k+1:=by unfold fstK;rw[hgl]
    rw[hfk]
    have hpos:0<L.length:=by cases L with|nil=>cases hgl|cons x l=>simp
    have hat:L[((L.length:Int) - 1).toNat]? =some k:=by rw[List.getLast?_eq_getElem?]at hgl;rw[←hgl];congr 1;omega
    have hkr:=hL.r k (List.mem_of_getElem? hat)
    refine kQ (zB rfl (zw rfl ty29 rfl (List.length_map _) ?_))
    refine zHY rfl rfl rfl (zA (k_cT rfl (decide_eq_true (by omega)) (k_region (zB rfl (zB rfl (zw rfl ty29 rfl (List.length_map _) ?_))))))
    refine zAW rfl rfl rfl (by unfold I64;omega) ?_
    refine zq (u:=.int .i64 k) rfl ty29 rfl rfl (by omega) (by rw[List.getElem?_map,hat];rfl) cl3 ?_
    refine zW rfl rfl sh3 rfl ?_
    refine yT rfl rfl rfl (by unfold I64;omega) (zC rfl (zA ?_))
    exact⟨rfl,rfl,.c4 rfl rfl rfl rfl (.cons rfl (.cons rfl (.cons rfl (.nil rfl))))⟩
  obtain⟨hst2,hs2⟩:=hM
  refine zK _ _ hs2 hst2 fun fr2=>?_
  refine k_seq (kQ (zB rfl (zC rfl (zA (zN ?_)))))
  refine yg (fun kk s3=>∃i:Nat,kk+i=((t.heard.length:Int) - fstK L).toNat∧(∀i',i'<i→zAe t J m (L++[fstK L+((i':Nat):Int)])=none)∧LI t J fo se le st L s3.st∧Holds s3 [(0,.lst .ro 1 (zO L)),(2,.int .i64 ((m+1:Nat):Int)),(4,.box se 0),(5,.box le 0),(7,.box st.length 0),(11,.int .i64 (fstK L+i))]) (fun kk s3 hI=>?_) ((t.heard.length:Int) - fstK L).toNat _ ⟨0,rfl,fun i' hi'=>absurd hi' (Nat.not_lt_zero _),⟨hV.snoc (nbs_bl8 _),.inl (by show(st++[SB.box (bl8 (metB L))]).take st.length=_;rw[List.take_left]),zX _ _⟩,.c4 rfl rfl rfl rfl (.cons rfl (.cons (by show U.int .i64 (fstK L)=_;simp) (.nil rfl)))⟩
  obtain⟨i,hki,hno,hLI,hs3⟩:=hI
  generalize hY:s3.st=Y at hLI
  have y0:=hLI.lv.s
  have y1:=hLI.a0
  have y2:=hLI.lv.l
  refine zK _ _ hs3 hY fun fr3=>?_
  by_cases hin:fstK L+(i:Int)<(t.heard.length:Int)
  ·obtain⟨key,hkey⟩:∃key,key=fstK L+(i:Int):=⟨_,rfl⟩
   have hk8:0≤key∧key<8:=by omega
   have hklt:=bl8_lt hk8
   rw[←hkey]at hin ⊢
   have hst12:(Y++[SB.box (bl8 (metB L))]).set Y.length (.box ((bl8 (metB L)).set (0+key.toNat*1) (.bool true)))=Y++[.box (bl8 (metB (L++[key])))]:=by
    rw[yC,bl8_set (metB L) hk8,metB_snoc L hk8.1]
   refine k_seq (kQ (zB rfl (zE rfl rfl wB (zE rfl rfl yG (zF rfl rfl y0 sh22 rfl ?_)))))
   refine zw rfl ty22 rfl (List.length_map _) ?_
   refine zf rfl rfl rfl (zA (k_cT rfl (decide_eq_true (by omega)) (zQ (k_seq (zN (kQ (zH rfl rfl y1 zAc rfl ?_)))))))
   refine zT rfl zGO ?_
   refine zJ rfl (zX _ _) zAc rfl rfl rfl rfl rfl ?_
   refine zA ?_
   refine zK [(0,.lst .ro 1 (zO L)),(2,.int .i64 ↑(m+1)),(4,U.box se 0),(5,U.box le 0),(7,U.box (List.length st) 0),(11,.int .i64 key),(12,U.box (List.length Y) 0)] (Y++[SB.box [U.bool (metB L 0),U.bool (metB L 1),U.bool (metB L 2),U.bool (metB L 3),U.bool (metB L 4),U.bool (metB L 5),U.bool (metB L 6),U.bool (metB L 7)]]) (.c4 rfl rfl rfl rfl (.cons rfl (.cons rfl (.cons rfl (.nil rfl))))) (yC _ _ _) fun fr=>?_
   refine kQ (zB rfl (wC rfl zCC rfl rfl (by omega) (by omega) cl4 ?_))
   refine yU rfl (zX _ _) sh4 hklt rfl ?_
   refine zA ?_
   refine zK [(0,.lst .ro 1 (zO L)),(2,.int .i64 ↑(m+1)),(4,U.box se 0),(5,U.box le 0),(7,U.box (List.length st) 0),(11,.int .i64 key),(12,U.box (List.length Y) 0)] (Y++[SB.box (List.set [U.bool (metB L 0),U.bool (metB L 1),U.bool (metB L 2),U.bool (metB L 3),U.bool (metB L 4),U.bool (metB L 5),U.bool (metB L 6),U.bool (metB L 7)] (0+Int.toNat key*1) (zZ (St.put (St.mv {fr:=fun j=>zCc [(0,.lst .ro 1 (zO L)),(2,.int .i64 ↑(m+1)),(4,U.box se 0),(5,U.box le 0),(7,U.box (List.length st) 0),(11,.int .i64 key),(12,U.box (List.length Y) 0)] j (fr j),al:=[],st:=Y++[SB.box [U.bool (metB L 0),U.bool (metB L 1),U.bool (metB L 2),U.bool (metB L 3),U.bool (metB L 4),U.bool (metB L 5),U.bool (metB L 6),U.bool (metB L 7)]]} 45 (Go.Operand.tmp 11)) 46 (U.box (List.length Y) (0+Int.toNat key*1))) (Go.Operand.const (Go.Value.bool Bool.true))))]) (.c4 rfl rfl rfl rfl (.cons rfl (.cons rfl (.cons rfl (.nil rfl))))) (yC _ _ _) fun fr=>?_
   obtain⟨b1,hb1⟩:∃b1,b1=SB.box (bl8 (metB (L++[key]))):=⟨_,rfl⟩
   refine zK [(0,.lst .ro 1 (zO L)),(2,.int .i64 ((m+1:Nat):Int)),(4,.box se 0),(5,.box le 0),(7,.box st.length 0),(11,.int .i64 key),(12,.box Y.length 0)] (Y++[b1]) (.c4 rfl rfl rfl rfl (.cons rfl (.cons rfl (.cons rfl (.nil rfl))))) (by rw[hb1,←hst12,yC];rfl) fun fr4=>?_
   have hnb:NBS b1:=by rw[hb1];exact nbs_bl8 _
   have hLV1:LV t J fo se le (Y++[b1]):=hLI.lv.snoc hnb
   have hcall:=ih is orc hi (by omega) (L++[key]) (Y++[b1]) (hL.snoc (by omega) hin) hLV1
   have hargs:([.lst .ro 1 (zO (L++[key])),.agg (bl8 (metB (L++[key]))),.int .i64 (m:Int),.box fo 0,.box se 0,.box le 0]:List U)=[.lst .ro 1 ((zO L).take L.length++[.int .i64 key]),.agg (bl8 (metB (L++[key]))),.int .i64 (((m+1:Nat):Int) - 1),.box fo 0,.box se 0,.box le 0]:=by
    rw[show(zO L).take L.length=zO L from List.take_of_length_le (by rw[List.length_map];exact Nat.le_refl _),show(((m+1:Nat):Int) - 1)=(m:Int) by omega]
    simp
   rw[hargs]at hcall
   have w0:(Y++[b1])[le]? =some (.box [.fn 97 [] [.box fo 0,.box se 0,.box le 0]]):=zg y2
   have w1:(Y++[b1])[Y.length]? =some (.box (bl8 (metB (L++[key])))):=by rw[hb1];exact zX _ _
   cases hlf:zAe t J m (L++[key])with
   |some K=>
    have hcall2:=hcall.mono (Q':=fun u st'=>u=.bool true∧st'=(Y++[b1]).set fo (.box [.lst .full 1 (zO K)])) fun u st' hq=>by unfold LvQ at hq;rw[hlf]at hq;exact hq
    refine k_seq (yr [.read true,.plain,.plain,.read true,.plain,.read true,.plain,.plain,.lay,.quiet,.read true,.plain,.plain,.plain] (by kernel_rfl) (by kernel_rfl) (by kernel_rfl) ?_)
    refine zS rfl (zF rfl rfl w0 sh120 rfl (zA rfl)) ?_
    refine zD (zB rfl (zA rfl)) (zD (zB rfl (zA rfl)) (zS rfl (zw rfl ty29 rfl (List.length_map _) (zA rfl)) ?_))
    refine zD (zB rfl (zA rfl)) (zS rfl (zw rfl ty29 rfl (List.length_map _) (zA rfl)) ?_)
    refine zD (o_slice0 rfl ty29 cl3 rfl (by simp) rfl rfl (by simp) (zA rfl)) ?_
    refine zD (zB rfl (zA rfl)) (d_lay (es:=[.int .i64 key]) rfl ty29 ze3 cl3 rfl rfl rfl rfl rfl rfl rfl rfl ?_)
    refine d_appendF rfl zCA rfl rfl (.inl rfl) (.inl rfl) rfl (by simp;omega) Nat.zero_lt_one ?_
    refine zS rfl (zH rfl rfl w1 zAc rfl (zA rfl)) ?_
    refine zD (zB rfl (zA rfl)) ?_
    refine zD (zAW rfl rfl rfl (by unfold I64;omega) (zA rfl)) ?_
    (refine d_callVE rfl rfl hcall2 (.lcons _ _ _ _ (.ro _ _ _) (.lrefl _)) (fun u st1 hM=>?_);obtain⟨rfl,rfl⟩:=hM)
    refine wc ?_
    refine zK [(0,.lst .ro 1 (zO L)),(2,.int .i64 ↑(m+1)),(4,U.box se 0),(5,U.box le 0),(7,U.box (List.length st) 0),(11,.int .i64 key),(60,.bool true)] (List.set (Y++[b1]) fo (SB.box [.lst .full 1 (zO K)])) (.c4 rfl rfl rfl rfl (.cons rfl (.cons rfl (.cons rfl (.nil rfl))))) rfl fun fr=>?_
    refine k_cT rfl rfl ?_
    refine kQ (zC rfl (zA (zb ?_)))
    refine⟨.inr rfl,_,.cons _ _ _ _ (.tmp 9) .nil,?_⟩
    refine⟨.bool true,.refl _,Bd.bool _ _,?_,?_,?_⟩
    ·show st.length≤((Y++[b1]).set fo (SB.box [U.lst Kd.full 1 (zO K)])).length
     have:=zFT y1
     simp;omega
    ·show ∀x∈((Y++[b1]).set fo (SB.box [U.lst Kd.full 1 (zO K)])).take st.length,BdS st.length x
     rw[hLI.done K b1]
     have:=(hV.put K).bd
     unfold BdY at this
     rwa [List.length_set]at this
    ·show LvQ t J fo (m+1) L st (.bool true) (((Y++[b1]).set fo (SB.box [U.lst Kd.full 1 (zO K)])).take st.length)
     rw[hLI.done K b1]
     have hfs:zAe t J (m+1) L=some K:=zFI (i:=i) (by omega) (by rw[←hkey];exact hlf) hno
     unfold LvQ
     rw[hfs]
     exact⟨rfl,rfl⟩
   |none=>
    have hcall2:=hcall.mono (Q':=fun u st'=>u=.bool false∧Tk fo (Y++[b1]) st') fun u st' hq=>by unfold LvQ at hq;rw[hlf]at hq;exact hq
    refine k_seq (yr [.read true,.plain,.plain,.read true,.plain,.read true,.plain,.plain,.lay,.quiet,.read true,.plain,.plain,.plain] (by kernel_rfl) (by kernel_rfl) (by kernel_rfl) ?_)
    refine zS rfl (zF rfl rfl w0 sh120 rfl (zA rfl)) ?_
    refine zD (zB rfl (zA rfl)) (zD (zB rfl (zA rfl)) (zS rfl (zw rfl ty29 rfl (List.length_map _) (zA rfl)) ?_))
    refine zD (zB rfl (zA rfl)) (zS rfl (zw rfl ty29 rfl (List.length_map _) (zA rfl)) ?_)
    refine zD (o_slice0 rfl ty29 cl3 rfl (by simp) rfl rfl (by simp) (zA rfl)) ?_
    refine zD (zB rfl (zA rfl)) (d_lay (es:=[.int .i64 key]) rfl ty29 ze3 cl3 rfl rfl rfl rfl rfl rfl rfl rfl ?_)
    refine d_appendF rfl zCA rfl rfl (.inl rfl) (.inl rfl) rfl (by simp;omega) Nat.zero_lt_one ?_
    refine zS rfl (zH rfl rfl w1 zAc rfl (zA rfl)) ?_
    refine zD (zB rfl (zA rfl)) ?_
    refine zD (zAW rfl rfl rfl (by unfold I64;omega) (zA rfl)) ?_
    (refine d_callVE rfl rfl hcall2 (.lcons _ _ _ _ (.ro _ _ _) (.lrefl _)) (fun u st1 hM=>?_);obtain⟨rfl,hTk⟩:=hM)
    refine wc ?_
    refine zK [(0,.lst .ro 1 (zO L)),(2,.int .i64 ↑(m+1)),(4,U.box se 0),(5,U.box le 0),(7,U.box (List.length st) 0),(11,.int .i64 key),(60,.bool false)] (st1) (.c4 rfl rfl rfl rfl (.cons rfl (.cons rfl (.cons rfl (.nil rfl))))) rfl fun fr=>?_
    refine k_cF rfl rfl ?_
    refine zQ (k_region (zB rfl ?_))
    refine yT rfl rfl rfl (by unfold I64;omega) (zC rfl (zA ?_))
    refine⟨kk - 1,by omega,i+1,by omega,fun i' hi'=>?_,⟨hTk.lv hLV1,?_,hTk.off (zg y1) (Nat.ne_of_lt hlt)⟩,.c4 rfl rfl rfl rfl (.cons rfl (.cons ?_ (.nil rfl)))⟩
    ·by_cases e:i'=i
     ·subst e;rw[←hkey];exact hlf
     ·exact hno i' (by omega)
    ·have h1:=hTk.take (n:=st.length)
     rw[List.take_append_of_le_length (by have:=zFT y1;omega)]at h1
     exact hLI.tk.trans h1
    ·show U.int .i64 (key+1)=_
     rw[hkey];congr 1;omega
  ·have hN:i=((t.heard.length:Int) - fstK L).toNat:=by omega
   refine k_seq (kQ (zB rfl (zE rfl rfl wB (zE rfl rfl yG (zF rfl rfl y0 sh22 rfl ?_)))))
   refine zw rfl ty22 rfl (List.length_map _) ?_
   refine zf rfl rfl rfl (zA (k_cF rfl (decide_eq_false (by omega)) (yO (kQ (zC rfl (zA (zb ?_)))))))
   refine⟨.inr rfl,_,.cons _ _ _ _ (.tmp 9) .nil,?_⟩
   refine⟨.bool false,.refl _,Bd.bool _ _,?_,?_,?_⟩
   ·show st.length≤Y.length
    have:=zFT y1;omega
   ·show ∀x∈Y.take st.length,BdS st.length x
    have h1:=(hLI.tk.lv hV).bd
    unfold BdY at h1
    rwa [hLI.tk.len]at h1
   ·show LvQ t J fo (m+1) L st (.bool false) (Y.take st.length)
    have hfs:zAe t J (m+1) L=none:=zHx fun j hj=>hno j (by omega)
    unfold LvQ
    rw[hfs]
    exact⟨rfl,hLI.tk⟩
end
end Go.Proofs.Ytinhcdijbcamaaa.tuneTrue
