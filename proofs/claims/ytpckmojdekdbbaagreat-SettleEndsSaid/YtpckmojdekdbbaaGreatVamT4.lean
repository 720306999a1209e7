import Derived.Test.YtpckmojdekdbbaaGreatVamT3
set_option linter.unusedVariables false
set_option linter.unusedSimpArgs false
set_option linter.constructorNameAsVariable false
namespace Go.Proofs.YtpckmojdekdbbaaGreat.settles
open Vam
section
variable {is:FuncId→Bool}{orc:Known}
theorem pl156:zHN Tryz.prog 156=some [(0,1),(1,1)]:=by kernel_rfl
theorem sh156:shOf Tryz.prog 156=.many 2:=by kernel_rfl
theorem ze156:yf Tryz.prog 156=some ((.cons .nilf (.cons .nilf .nil)):V):=by kernel_rfl
noncomputable def b123:Code:=(Tryz.f123.body).getD .skip
theorem body123:bodyOf Tryz.prog 123=some (2,b123,[.cell 0 156]):=by kernel_rfl
theorem pure123:pureFn Tryz.prog 123=false:=by kernel_rfl
theorem cl155:Program.cellsOf Tryz.prog 155=1:=by kernel_rfl
theorem sh155:shOf Tryz.prog 155=.one:=by kernel_rfl
theorem ty156:tyOf Tryz.prog 156=.array 2 155:=by kernel_rfl
noncomputable def b107:Code:=(Tryz.f107.body).getD .skip
theorem body107:bodyOf Tryz.prog 107=some (22,b107,[.cell 4 92]):=by kernel_rfl
theorem pure107:pureFn Tryz.prog 107=true:=by kernel_rfl
theorem bd_ints2(a b:Int)(m:Nat):BdS m (.box [.int .i64 a,.int .i64 b]):=fun c hc=>by
 simp only[List.mem_cons,List.not_mem_nil,or_false]at hc
 rcases hc with rfl|rfl<;>exact Bd.int _ _ _
theorem zFX(F:Nat→Sp)(m:Nat):BdS m (.box (arrC F)):=fun c hc=>by
 obtain⟨n,rfl⟩:=zCd hc
 exact Bd.int _ _ _
theorem bd_lst{u:U}{k:Nat}(h:Dat k u)(m:Nat):BdS m (.box [u]):=fun c hc=>by
 rcases List.mem_singleton.1 hc with rfl
 exact h.bd _
def bkV(F:Nat→Sp)(L:List Sp):List SB:=[.box (arrC F),.box (arrC wc),.box [.lst .ro 2 (spsU L)]]
set_option maxHeartbeats 16000000 in
theorem ret142(hi:Off is)(F:Nat→Sp)(L:List Sp)(h:StOk L)(hF:Bnd L.length 100000000 F):RetP Tryz.prog is orc 142 [.agg (arrC F),.lst .ro 2 (spsU L)] (.agg (arrC (zBO L.length F (zh L)))):=by
 refine yp body142 pure142 (hi 142 (by decide)) rfl rfl (wQ (zBE F 6) (zBD L 6)) (.inl (zBE _ 6)) ?_
 have hn:=h.n
 have hb:=back_bnd (n:=L.length) (T:=zh L) hF (C:=100000) (by decide) fun i hi=>h.at hi
 refine kQ (o_boxA rfl rfl ?_)
 refine zAQ rfl ze92 zAL ?_
 refine zA ?_
 refine zL [(1,.lst .ro 2 (spsU L)),(2,U.box 0 0),(4,U.box 1 0)] ([SB.box (arrC F),SB.box (arrC wc)]) (.n3 rfl) rfl fun fr=>?_
 refine k_seq (kQ (zD rfl ?_))
 refine zAO rfl (wpc151 hi L _) (.lrefl _) (fun u st1 hM=>?_)
 refine zA (zR ?_)
 obtain⟨rfl,rfl⟩:=hM
 refine k_forget [(2,.box 0 0),(4,.box 1 0),(8,.fn 153 [] [.box 2 0])] (bkV F L) (.n3 rfl) rfl ?_
 refine k_rangeN (n:=3) (I:=fun l Z=>Z=bkV (bckP L.length (L.length - l.length) F (zh L)) L) hi (gen153 2 L (by omega)) rfl (cns_of ?_ ?_ (fun i=>zDZ _) ⟨rfl,rfl⟩ ?_) ?_ ?_ rfl rfl (by show bkV F L=bkV (bckP L.length (L.length - 0) F (zh L)) L;rw[Nat.sub_zero,bck_none]) ?_
 ·rintro l Z rfl _ x hx
  simp only[bkV,List.mem_cons,List.not_mem_nil,or_false]at hx
  rcases hx with rfl|rfl|rfl
  ·exact zFX _ _
  ·exact zFX _ _
  ·exact bd_lst (zBD L 6) _
 ·intro i
  refine lookU_all (p:=fun u=>Bd (3+1) (dg u)) (l:=[(2,.box 0 0),(4,.box 1 0),(8,.fn 153 [] [.box 2 0])]) ?_ (Bd.junk _) i
  intro x hx
  simp only[List.mem_cons,List.not_mem_nil,or_false]at hx
  rcases hx with rfl|rfl|rfl
  ·exact Bd.box (by omega)
  ·exact Bd.box (by omega)
  ·exact Bd.fn (fun u hu=>by cases hu) fun u hu=>by rcases List.mem_singleton.1 hu with rfl;exact Bd.box (by omega)
 ·generalize hlp:lpOf _ _ _ _=lp
  rintro is orc hi l q r Z e he rfl hZl hbe
  obtain⟨k,hk⟩:∃k,l.length=k:=⟨_,rfl⟩
  have hq:(revE L)[k]? =some q:=by rw[he,List.getElem?_append_right (by omega),hk,Nat.sub_self];rfl
  have hkl:k<L.length:=by have:=(List.getElem?_eq_some_iff.1 hq).1;rw[revE_len]at this;exact this
  rw[revE_at hkl]at hq
  cases hq
  obtain⟨j,hj⟩:∃j:Nat,L.length - 1 - k=j:=⟨_,rfl⟩
  have hm:=bck_more (n:=L.length) (m:=j) F (zh L) (by omega)
  have hb1:=hb (L.length - (j+1)) (j+1) (by omega)
  have hxb:=h.at (i:=j) (by omega)
  rw[show zBO L.length F (zh L) (j+1)=bckP L.length (j+1) F (zh L) (j+1) by unfold bckP;rw[if_pos (Nat.le_refl _)]]at hb1
  dsimp only[Inv]
  rw[hj,List.length_append,hk,show L.length - k=j+1 by omega,show L.length - (k+[(j,zh L j)].length)=j by show L.length - (k+1)=j;omega]
  rw[hm]
  generalize bckP L.length (j+1) F (zh L)=G at*
  generalize hT:zh L j=x at*
  obtain⟨x1,x2⟩:=x
  obtain⟨g1,hg1⟩:∃g,G j=g:=⟨_,rfl⟩
  obtain⟨g2,hg2⟩:∃g,G (j+1)=g:=⟨_,rfl⟩
  rw[hg2]at hb1
  rw[hg1,hg2]
  obtain⟨a1,b1⟩:=g1
  obtain⟨a2,b2⟩:=g2
  have q1:=ret117 (orc:=orc) hi a2 b2 x1 x2 (by unfold I64;simp only at hb1 hxb;omega) (by unfold I64;simp only at hb1 hxb;omega)
  have q2:=ret122 (orc:=orc) hi a1 b1 (a2 - x2) (b2 - x1)
  unfold WpY
  rw[←congrArg Lp.assign hlp,←congrArg Lp.body hlp,←congrArg Lp.ps hlp,←congrArg Lp.fr hlp]
  obtain⟨Y1,hY1⟩:∃Y,Y=bkV G L++(SB.loop .ready lp::e):=⟨_,rfl⟩
  rw[←hY1]
  refine kQ (zE rfl (zA (k_region (zi rfl ze35 ?_))))
  refine zS rfl (zT _ _) sh35 rfl rfl rfl rfl rfl ?_
  refine zA ?_
  have hYl:Y1.length=4+e.length:=by rw[hY1,List.length_append,List.length_cons];show 3+(e.length+1)=_;omega
  refine⟨rfl,?_,?_⟩
  ·show((Y1++[SB.box _]).set Y1.length (SB.box _))[3]? =_
   rw[yK,hY1];rfl
  ·obtain⟨Y2,hY2⟩:∃Y,Y=bkV G L++(SB.loop .busy lp::(e++[SB.box [.int .i64 x1,.int .i64 x2]])):=⟨_,rfl⟩
   have y0:Y2[0]? =some (.box (arrC G)):=by rw[hY2];rfl
   have y4:Y2[Y1.length]? =some (.box [.int .i64 x1,.int .i64 x2]):=by
    rw[hY2,hYl,show bkV G L++(SB.loop .busy lp::(e++[SB.box [.int .i64 x1,.int .i64 x2]]))=(bkV G L++(SB.loop .busy lp::e))++[SB.box [.int .i64 x1,.int .i64 x2]] by simp]
    rw[List.getElem?_append_right (by rw[List.length_append,List.length_cons];show 3+(e.length+1)≤_;omega),List.length_append,List.length_cons,show 4+e.length - ((bkV G L).length+(e.length+1))=0 by show 4+e.length - (3+(e.length+1))=0;omega];rfl
   refine zL [(2,.box 0 0),(4,.box 1 0),(5,.int .i64 (j:Int)),(6,.box Y1.length 0)] Y2 (.n4 rfl) (by
    show(((Y1++[SB.box _]).set Y1.length (SB.box _)).set 3 (.loop .busy lp))=_
    rw[yK,hY1,hY2,List.append_assoc,List.cons_append];rfl) fun fr=>?_
   refine zR (wM [.plain,.plain,.plain,.read true,.plain,.plain,.plain,.read true,.read true,.read false,.plain,.plain,.plain] (by kernel_rfl) (by kernel_rfl) (by kernel_rfl) ?_)
   refine zC (zD rfl (zA rfl)) (zC (zD rfl (zA rfl)) (zC (zAt rfl ty92 rfl rfl (by omega) (by omega) cl35 (zA rfl)) ?_))
   refine zJ rfl (o_ldA (F:=G) j (by omega) rfl rfl (by omega) y0 sh35 (by rw[hg1];exact zA rfl)) ?_
   refine zC (zD rfl (zA rfl)) ?_
   refine zC (kz rfl (by unfold I64;omega) (zA rfl)) ?_
   refine zC (zAt rfl ty92 rfl rfl (by omega) (by omega) cl35 (zA rfl)) ?_
   refine zJ rfl (o_ldA (F:=G) (j+1) (by omega) rfl rfl (by omega) y0 sh35 (by rw[hg2];exact zA rfl)) ?_
   refine zJ rfl (zg rfl rfl y4 sh35 rfl (zA rfl)) ?_
   refine zp [(2,U.box 0 0),(4,U.box 1 0),(5,.int .i64 ↑j),(6,U.box (List.length Y1) 0),(11,.int .i64 ↑j),(12,.int .i64 ↑j),(13,U.box 0 (0+Int.toNat ↑j*2)),(14,spU (a1,b1)),(15,.int .i64 ↑j),(16,.int .i64 (↑j+(1:Int))),(17,U.box 0 (0+Int.toNat (↑j+(1:Int))*2)),(18,spU (a2,b2)),(19,U.agg [.int .i64 x1,.int .i64 x2])] [] (Y2) (.c4 rfl rfl rfl rfl (.n9 rfl)) rfl rfl fun fr=>?_
   refine yH rfl (q1) (zf _ _) (.lrefl _) ?_
   refine zC (zY rfl (q2) (.lrefl _) (zA rfl)) ?_
   refine zC (zAt rfl ty92 rfl rfl (by omega) (by omega) cl35 (zA rfl)) ?_
   refine zC (o_stA (F:=G) j (v:=(max a1 (a2 - x2),min b1 (b2 - x1))) (by omega) rfl (by omega) y0 sh35 rfl (zA rfl)) ?_
   refine zAK ?_
   refine⟨?_,rfl,bkV (updS G j (max a1 (a2 - x2),min b1 (b2 - x1))) L,e++[SB.box [.int .i64 x1,.int .i64 x2]],rfl,rfl,bd_e hbe (bd_ints2 _ _),?_⟩
   ·show(Y2.set 0 _)[3]? =_
    rw[hY2];rfl
   ·show(Y2.set 0 _).set 3 (.loop .ready lp)=_
    rw[hY2];rfl
 ·rintro l Z r rfl _;rfl
 ·rintro l Z rfl _ x hx
  simp only[bkV,List.mem_cons,List.not_mem_nil,or_false]at hx
  rcases hx with rfl|rfl|rfl
  ·exact zFX _ _
  ·exact zFX _ _
  ·exact bd_lst (zBD L 6) _
 ·rintro Z rfl _
  rw[revE_len,Nat.sub_self,bck_all]
  generalize zBO L.length F (zh L)=G at*
  show Wp Tryz.prog is orc _ _ _
  refine kQ (zDC (F:=G) rfl rfl rfl sh92 ?_)
  refine zEu (F:=G) (G:=wc) rfl rfl sh92 rfl ?_
  refine zA (zw ?_)
  refine⟨.inr rfl,_,.cons _ _ _ _ (.cellN 4 92 _ _ _ _ rfl rfl sh92 rfl) .nil,?_⟩
  exact .refl _
noncomputable def chA(F G:Nat→Sp):List Nat→Option Bool
 |[]=>some true
 |i::l=>opt none (fun b=>Vam.cond b (chA F G l) (some false)) (Vam.cond (ieq (F i).1 (G i).1) (Vam.cond (ieq (F i).2 (G i).2) (some true) (some false)) (some false))
theorem chA_eq(F G:Nat→Sp):∀l:List Nat,chA F G l=some (l.all fun i=>decide (F i=G i)):=by
 intro l
 induction l with
 |nil=>rfl
 |cons i l ih=>
  unfold chA
  rw[ih,zAT,zAT,List.all_cons]
  have e:decide (F i=G i)=((F i).1==(G i).1&&(F i).2==(G i).2):=by
   rw[Bool.eq_iff_iff,decide_eq_true_eq,Bool.and_eq_true,beq_iff_eq,beq_iff_eq,Prod.ext_iff]
  rw[e]
  cases(F i).1==(G i).1<;>cases(F i).2==(G i).2<;>rfl
theorem eqA(F G:Nat→Sp):binV Tryz.prog 92 .eql (valK (.agg (arrC F))) (valK (.agg (arrC G)))=some (.bool ((List.range 41).all fun i=>decide (F i=G i))):=by
 have h:binV Tryz.prog 92 .eql (valK (.agg (arrC F))) (valK (.agg (arrC G)))=opt none (fun x=>some (V.bool x)) (chA F G (List.range 41)):=by kernel_rfl
 rw[h,chA_eq];rfl
theorem arr_fk(F:Nat→Sp):flatK (.agg (arrC F))=true:=arr_flatC F
end
section
variable {is:FuncId→Bool}{orc:Known}
noncomputable def b124:Code:=(Tryz.f124.body).getD .skip
theorem body124:bodyOf Tryz.prog 124=some (19,b124,[.tmp 4]):=by kernel_rfl
theorem pure124:pureFn Tryz.prog 124=false:=by kernel_rfl
noncomputable def b108:Code:=(Tryz.f108.body).getD .skip
theorem body108:bodyOf Tryz.prog 108=some (9,b108,[.tmp 4]):=by kernel_rfl
theorem pure108:pureFn Tryz.prog 108=false:=by kernel_rfl
noncomputable def b86:Code:=(Tryz.f86.body).getD .skip
theorem body86:bodyOf Tryz.prog 86=some (9,b86,[.tmp 4]):=by kernel_rfl
theorem pure86:pureFn Tryz.prog 86=true:=by kernel_rfl
theorem nb_fn0(f:Nat):NB (.fn f [] []):=NB.fn (fun u hu=>by cases hu) fun u hu=>by cases hu
theorem ret123(hi:Off is):RetP Tryz.prog is orc 123 [] (.agg [.fn 141 [] [],.fn 142 [] []]):=by
 refine zBJ body123 pure123 rfl rfl (fun u hu=>by cases hu) (NB.agg fun u hu=>by
  simp only[List.mem_cons,List.not_mem_nil,or_false]at hu
  rcases hu with rfl|rfl<;>exact nb_fn0 _) ?_
 refine kQ (zi rfl ze156 ?_)
 refine zA ?_
 refine zL [(0,U.box 0 0)] ([SB.box [U.nilf,U.nilf]]) (.n1 rfl) rfl fun fr=>?_
 refine kQ (zZ rfl ze156 pl156 rfl rfl ?_)
 refine zS rfl rfl sh156 rfl rfl rfl rfl rfl ?_
 refine zA (zw ?_)
 refine⟨.inr rfl,_,.cons _ _ _ _ (.cellN 0 156 _ _ _ _ rfl rfl sh156 rfl) .nil,?_⟩
 exact .refl _
theorem zCc{n:Nat}{B C:Int}{S:Nat→Sp}(h:Bnd n B S)(hB:B≤C):Bnd n C S:=fun i hi=>by have:=h i hi;omega
theorem setl_top{n:Nat}{S T:Nat→Sp}(hn:n≤40)(h:Bnd n 1000000 S)(hT:∀i,i<n→ -100000≤(T i).1∧(T i).1≤100000∧ -100000≤(T i).2∧(T i).2≤100000):Bnd n 9000000 (yP n S T):=by
 have h1:Bnd n 5000000 (zr n S T):=zCc (forth_top h (C:=100000) (by decide) hT) (by omega)
 exact zCc (back_top h1 (C:=100000) (by decide) hT) (by omega)
def dirS(n:Nat)(X T:Nat→Sp):Nat→Nat→Sp
 |0=>X
 |1=>zr n X T
 |_=>yP n X T
set_option maxHeartbeats 16000000 in
theorem ret107(hi:Off is)(F:Nat→Sp)(L:List Sp)(h:StOk L)(hU:Ups L.length (zh L))(hF:Bnd L.length 1000000 F):RetP Tryz.prog is orc 107 [.agg (arrC F),.lst .ro 2 (spsU L)] (.agg (arrC (yP L.length F (zh L)))):=by
 refine yp body107 pure107 (hi 107 (by decide)) rfl rfl (wQ (zBE F 6) (zBD L 6)) (.inl (zBE _ 6)) ?_
 have hn:=h.n
 have hT:=fun i hi=>h.at (i:=i) hi
 have hG:=setl_top hn hF hT
 obtain⟨_,ha2⟩:=zHX F hU
 have ha:yP L.length (yP L.length F (zh L)) (zh L)=yP L.length F (zh L):=by
  show zBO _ (zr _ (yP L.length F (zh L)) _) _=_
  rw[(zHX F hU).1,ha2]
 have q123:=ret123 (orc:=orc) hi
 refine kQ (o_boxA rfl rfl ?_)
 refine zAQ rfl ze92 zAL ?_
 refine zA ?_
 refine zL [(1,.lst .ro 2 (spsU L)),(2,U.box 0 0),(4,U.box 1 0)] ([SB.box (arrC F),SB.box (arrC wc)]) (.n3 rfl) rfl fun fr=>?_
 refine zR ?_
 refine yq (fun kk st=>∃X:Nat→Sp,((X=F∧kk=2)∨(X=yP L.length F (zh L)∧kk=1))∧(∃e,st.st=SB.box (arrC X)::SB.box (arrC wc)::e)∧Holds st [(1,.lst .ro 2 (spsU L)),(2,.box 0 0),(4,.box 1 0)]) (fun kk st hI=>?_) 2 _ ⟨F,.inl ⟨rfl,rfl⟩,⟨[],rfl⟩,.cons rfl (.n2 rfl)⟩
 obtain⟨X,hX,⟨e,hst⟩,hs⟩:=hI
 have hXb:Bnd L.length 9000000 X:=by
  rcases hX with ⟨rfl,_⟩|⟨rfl,_⟩
  ·exact zCc hF (by decide)
  ·exact hG
 have hXs:yP L.length X (zh L)=yP L.length F (zh L):=by
  rcases hX with ⟨rfl,_⟩|⟨rfl,_⟩
  ·rfl
  ·exact ha
 have hfb:Bnd L.length 100000000 (zr L.length X (zh L)):=zCc (forth_top hXb (C:=100000) (by decide) hT) (by omega)
 have q141:=ret141 (orc:=orc) hi X L h (zCc hXb (by decide))
 have q142:=ret142 (orc:=orc) hi (zr L.length X (zh L)) L h hfb
 generalize hY:SB.box (arrC X)::SB.box (arrC wc)::e=Y at hst
 have y0:Y[0]? =some (.box (arrC X)):=by rw[←hY];rfl
 refine zL _ _ hs hst fun fr=>?_
 refine zR (kQ (zDC (F:=X) rfl rfl y0 sh92 ?_))
 refine zAQ rfl ze92 zAL ?_
 refine zEu (F:=X) (G:=wc) rfl (zT _ _) sh92 rfl ?_
 refine zA ?_
 refine zL [(1,.lst .ro 2 (spsU L)),(2,U.box 0 0),(4,U.box 1 0),(5,U.box (List.length Y) 0)] (Y++[SB.box (arrC X)]) (.n4 rfl) (yK _ _ _) fun fr=>?_
 refine k_seq (kQ (zY rfl (q123) (.lrefl _) (zD rfl (zA (zR ?_)))))
 have b5:(Y++[SB.box (arrC X)])[Y.length]? =some (.box (arrC X)):=zT _ _
 have hY1:Y++[SB.box (arrC X)]=SB.box (arrC X)::SB.box (arrC wc)::(e++[SB.box (arrC X)]):=by rw[←hY];rfl
 have hbl:Y.length=e.length+2:=by rw[←hY];rfl
 refine yq (fun k2 st2=>∃i:Nat,k2+i=2∧st2.st=SB.box (arrC (dirS L.length X (zh L) i))::SB.box (arrC wc)::(e++[SB.box (arrC X)])∧Holds st2 [(1,.lst .ro 2 (spsU L)),(2,.box 0 0),(4,.box 1 0),(5,.box Y.length 0),(9,.agg [.fn 141 [] [],.fn 142 [] []]),(10,.int .i64 i)]) (fun k2 st2 hI=>?_) 2 _ ⟨0,rfl,hY1,.c4 rfl rfl rfl rfl (.n2 rfl)⟩
 obtain⟨i,hk2,hst2,hs2⟩:=hI
 refine zL _ _ hs2 hst2 fun fr2=>?_
 match i,hk2 with
 |0,hk2=>
  obtain rfl:k2=2:=by omega
  show Wp Tryz.prog is orc _ ⟨fun j=>zCD [(1,.lst .ro 2 (spsU L)),(2,.box 0 0),(4,.box 1 0),(5,.box Y.length 0),(9,.agg [.fn 141 [] [],.fn 142 [] []]),(10,.int .i64 0)] j (fr2 j),[],SB.box (arrC X)::SB.box (arrC wc)::(e++[SB.box (arrC X)])⟩ _
  refine kQ (kp rfl (zA (k_seq (k_cT rfl rfl ?_))))
  refine zV (k_seq (zR (kQ (o_idx1 rfl ty156 rfl rfl (by omega) (by omega) cl155 sh155 rfl ?_))))
  refine zE rfl (zA (k_region (zD rfl (zDC (F:=X) rfl rfl rfl sh92 ?_))))
  refine zD rfl (zER rfl rfl q141 (.lrefl _) ?_)
  refine zEu (F:=zr L.length X (zh L)) (G:=X) rfl rfl sh92 rfl ?_
  refine zA (k_region ?_)
  refine kz rfl (by unfold I64;omega) (zD rfl (zA ?_))
  exact⟨1,by omega,1,rfl,rfl,.c4 rfl rfl rfl rfl (.n2 rfl)⟩
 |1,hk2=>
  obtain rfl:k2=1:=by omega
  show Wp Tryz.prog is orc _ ⟨fun j=>zCD [(1,.lst .ro 2 (spsU L)),(2,.box 0 0),(4,.box 1 0),(5,.box Y.length 0),(9,.agg [.fn 141 [] [],.fn 142 [] []]),(10,.int .i64 1)] j (fr2 j),[],SB.box (arrC (zr L.length X (zh L)))::SB.box (arrC wc)::(e++[SB.box (arrC X)])⟩ _
  generalize hW:zr L.length X (zh L)=W at*
  refine kQ (kp rfl (zA (k_seq (k_cT rfl rfl ?_))))
  refine zV (k_seq (zR (kQ (o_idx1 rfl ty156 rfl rfl (by omega) (by omega) cl155 sh155 rfl ?_))))
  refine zE rfl (zA (k_region (zD rfl (zDC (F:=W) rfl rfl rfl sh92 ?_))))
  refine zD rfl (zER rfl rfl q142 (.lrefl _) ?_)
  refine zEu (F:=zBO L.length W (zh L)) (G:=W) rfl rfl sh92 rfl ?_
  refine zA (k_region ?_)
  refine kz rfl (by unfold I64;omega) (zD rfl (zA ?_))
  exact⟨0,by omega,2,rfl,(by rw[←hW];rfl),.c4 rfl rfl rfl rfl (.n2 rfl)⟩
 |2,hk2=>
  obtain rfl:k2=0:=by omega
  have he:=eqA (yP L.length X (zh L)) X
  show Wp Tryz.prog is orc _ ⟨fun j=>zCD [(1,.lst .ro 2 (spsU L)),(2,.box 0 0),(4,.box 1 0),(5,.box Y.length 0),(9,.agg [.fn 141 [] [],.fn 142 [] []]),(10,.int .i64 2)] j (fr2 j),[],SB.box (arrC (yP L.length X (zh L)))::SB.box (arrC wc)::(e++[SB.box (arrC X)])⟩ _
  have y5:(SB.box (arrC (yP L.length X (zh L)))::SB.box (arrC wc)::(e++[SB.box (arrC X)]))[Y.length]? =some (.box (arrC X)):=by
   rw[hbl]
   show(e++[SB.box (arrC X)])[e.length]? =_
   exact zT _ _
  rw[hXs]at he y5 ⊢
  by_cases hc:((List.range 41).all fun i=>decide (yP L.length F (zh L) i=X i))=true
  ·rw[hc]at he
   generalize yP L.length F (zh L)=W at*
   refine kQ (kp rfl (zA (k_seq (k_cF rfl rfl ?_))))
   refine yj (kQ (zDC (F:=W) rfl rfl rfl sh92 ?_))
   refine zDC (F:=X) rfl rfl y5 sh92 ?_
   refine o_binK rfl rfl rfl (arr_fk _) (arr_fk _) he ?_
   refine zA (k_cT rfl rfl ?_)
   refine kQ (zDC (F:=W) rfl rfl rfl sh92 ?_)
   refine zEu (F:=W) (G:=wc) rfl rfl sh92 rfl ?_
   refine zA (zw ?_)
   refine⟨.inr rfl,_,.cons _ _ _ _ (.cellN 4 92 _ _ _ _ rfl rfl sh92 rfl) .nil,?_⟩
   exact .refl _
  ·have hc:((List.range 41).all fun i=>decide (yP L.length F (zh L) i=X i))=false:=by simpa using hc
   rw[hc]at he
   have hX2:X=F∧kk=2:=by
    rcases hX with h|⟨rfl,_⟩
    ·exact h
    ·rw[show((List.range 41).all fun i=>decide (yP L.length F (zh L) i=yP L.length F (zh L) i))=true by simp]at hc
     cases hc
   generalize hW:yP L.length F (zh L)=W at*
   refine kQ (kp rfl (zA (k_seq (k_cF rfl rfl ?_))))
   refine yj (kQ (zDC (F:=W) rfl rfl rfl sh92 ?_))
   refine zDC (F:=X) rfl rfl y5 sh92 ?_
   refine o_binK rfl rfl rfl (arr_fk _) (arr_fk _) he ?_
   refine zA (k_cF rfl rfl ?_)
   refine zV ?_
   exact⟨1,by omega,W,.inr ⟨rfl,rfl⟩,⟨_,rfl⟩,.cons rfl (.n2 rfl)⟩
set_option maxHeartbeats 8000000 in
theorem wpc124(J:List Sp)(hJ:J.length≤64)(f:Nat)(A B:List U)(F:Sp→Bool)(hF:∀j∈J,RetP Tryz.prog is orc f (A++([spU j]++B)) (.bool (F j)))(st:List SB):WpC Tryz.prog is orc 124 [.lst .ro 2 (spsU J),.fn f A B] st fun u st'=>∃n:Int,u=.int .i64 n∧decide (0≤n)=J.any F∧st'=st:=by
 refine zGI body124 pure124 rfl rfl ?_
 refine kQ (zE rfl (zA (k_seq (kQ (zD rfl (zz rfl ty23 rfl (List.length_map _) ?_))))))
 refine zD rfl (zA (zR ?_))
 refine yq (fun kk s2=>∃i:Nat,kk+i=J.length∧(J.take i).any F=false∧s2.st=st∧Holds s2 [(0,.lst .ro 2 (spsU J)),(1,.fn f A B),(7,.int .i64 J.length),(8,.int .i64 i)]) (fun kk s2 hI=>?_) J.length _ ⟨0,rfl,rfl,rfl,.c4 rfl rfl rfl rfl (.nil rfl)⟩
 obtain⟨i,hki,hno,hst2,hs2⟩:=hI
 refine zL _ _ hs2 hst2 fun fr2=>?_
 by_cases hin:i<J.length
 ·obtain⟨j,hj⟩:∃j,J[i]? =some j:=⟨J[i],List.getElem?_eq_getElem hin⟩
  have hjm:=List.mem_of_getElem? hj
  have hju:(spsU J)[i]? =some (spU j):=by rw[List.getElem?_map,hj];rfl
  have hf:=hF j hjm
  cases hc:F j with
  |true=>
   rw[hc]at hf
   refine kQ (kp rfl (zA (k_seq (k_cT rfl (kF (by omega)) (zV (k_seq (zR (kQ (zD rfl (zE rfl (zA (kQ (zD rfl (zD rfl (zD rfl ?_)))))))))))))))
   refine wb (u:=spU j) rfl ty23 rfl rfl (Int.natCast_nonneg _) hju cl35 ?_
   refine yL rfl rfl sh35 rfl ?_
   refine zER rfl rfl hf (.lrefl _) ?_
   refine zA (k_cT rfl rfl ?_)
   refine kQ (zD rfl (zE rfl (zA (zw ?_))))
   refine⟨.inr rfl,_,.cons _ _ _ _ (.tmp 4) .nil,?_⟩
   exact⟨_,.refl _,(i:Int),rfl,by rw[kF (Int.natCast_nonneg _),List.any_eq_true.2 ⟨j,hjm,hc⟩],rfl⟩
  |false=>
   rw[hc]at hf
   refine kQ (kp rfl (zA (k_seq (k_cT rfl (kF (by omega)) (zV (k_seq (zR (kQ (zD rfl (zE rfl (zA (kQ (zD rfl (zD rfl (zD rfl ?_)))))))))))))))
   refine wb (u:=spU j) rfl ty23 rfl rfl (Int.natCast_nonneg _) hju cl35 ?_
   refine yL rfl rfl sh35 rfl ?_
   refine zER rfl rfl hf (.lrefl _) ?_
   refine zA (k_cF rfl rfl ?_)
   refine zV (k_region ?_)
   refine kz rfl (by unfold I64;omega) (zD rfl (zA ?_))
   exact⟨kk - 1,by omega,i+1,by omega,by rw[List.take_add_one,hj,List.any_append,hno];simp[hc],rfl,.c4 rfl rfl rfl rfl (.nil rfl)⟩
 ·have hiN:i=J.length:=by omega
  subst hiN
  rw[List.take_length]at hno
  refine kQ (kp rfl (zA (k_seq (k_cF rfl (kG (by omega)) (yj (kQ (zE rfl (zA (zw ?_)))))))))
  refine⟨.inr rfl,_,.cons _ _ _ _ (.tmp 4) .nil,?_⟩
  exact⟨_,.refl _, -1,rfl,by rw[hno];rfl,rfl⟩
theorem wpc108(J:List Sp)(hJ:J.length≤64)(f:Nat)(A B:List U)(F:Sp→Bool)(hF:∀j∈J,RetP Tryz.prog is orc f (A++([spU j]++B)) (.bool (F j)))(st:List SB):WpC Tryz.prog is orc 108 [.lst .ro 2 (spsU J),.fn f A B] st fun u st'=>u=.bool (J.any F)∧st'=st:=by
 refine zGI body108 pure108 rfl rfl ?_
 refine kQ (zE rfl (zA (kQ (zD rfl (zD rfl ?_)))))
 refine zAO rfl (wpc124 J hJ f A B F hF _) (.lrefl _) (fun u st1 hM=>?_)
 obtain⟨n,rfl,hn,rfl⟩:=hM
 refine o_geq rfl rfl rfl (zE rfl (zA (zw ?_)))
 refine⟨.inr rfl,_,.cons _ _ _ _ (.tmp 4) .nil,?_⟩
 exact⟨_,.refl _,congrArg U.bool hn,rfl⟩
def conB(F:Nat→Sp)(n:Nat):Bool:=((List.range n).map F).any fun x=>decide (x.2<x.1)
set_option maxHeartbeats 8000000 in
theorem ret86(hi:Off is)(F:Nat→Sp){n:Nat}(hn:n≤41):RetP Tryz.prog is orc 86 [.agg (arrC F),.int .i64 n] (.bool (conB F n)):=by
 refine yp body86 pure86 (hi 86 (by decide)) rfl rfl (wQ (zBE F 6) (.int _ _ _)) (.inl (.bool _ _)) ?_
 have hl:(spsU ((List.range n).map F)).length=n:=by simp
 have hes:yW (spsU ((List.range n).map F))=(((arrC F).map dg).drop (0+0*2)).take ((n - 0)*2):=by
  rw[arr_dg,Nat.zero_mul,Nat.add_zero,List.drop_zero,Nat.sub_zero,←arr_take F hn]
  unfold spsU
  rw[List.map_map];rfl
 have hw:=fun st=>wpc108 (is:=is) (orc:=orc) ((List.range n).map F) (by simp;omega) 109 [] [] (fun x=>decide (x.2<x.1)) (fun j _=>ret109 hi j.1 j.2) st
 refine kQ (o_boxA rfl rfl ?_)
 refine zE rfl (zA ?_)
 refine zL [(1,.int .i64 ↑n),(2,U.box 0 0)] ([SB.box (arrC F)]) (.n2 rfl) rfl fun fr=>?_
 refine kQ (zD rfl (zD rfl ?_))
 refine o_sliceA (n:=41) (c:=2) (l1:=0) (h1:=n) (m1:=n) (es:=spsU ((List.range n).map F)) rfl ty92 cl35 rfl rfl rfl (by rw[Nat.ble_eq,zDJ];omega) ⟨_,rfl⟩ ⟨_,rfl⟩ rfl (.inr (by simp)) (by omega) (by omega) (by omega) hes (by simp[zx]) hl ?_
 refine zAO rfl (hw _) (.lrefl _) (fun u st1 hM=>?_)
 refine zE rfl (zA (zw ?_))
 refine⟨.inr rfl,_,.cons _ _ _ _ (.tmp 4) .nil,?_⟩
 obtain⟨rfl,rfl⟩:=hM
 exact .refl _
theorem con_iff{F:Nat→Sp}{n:Nat}:conB F n=false↔ ∀i,i<n→(F i).1≤(F i).2:=by
 unfold conB
 rw[List.any_eq_false]
 constructor
 ·intro h i hi
  have:=h (F i) (List.mem_map.2 ⟨i,List.mem_range.2 hi,rfl⟩)
  simp only[decide_eq_true_eq]at this
  omega
 ·intro h x hx
  obtain⟨i,hi,rfl⟩:=List.mem_map.1 hx
  have:=h i (List.mem_range.1 hi)
  simp only[decide_eq_true_eq]
  omega
end
end Go.Proofs.YtpckmojdekdbbaaGreat.settles
