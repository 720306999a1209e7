import Derived.Test.YtpckmojdekdbbaaGreatVamT2
set_option linter.unusedVariables false
set_option linter.unusedSimpArgs false
set_option linter.constructorNameAsVariable false
namespace Go.Proofs.YtpckmojdekdbbaaGreat.settles
open Vam
section
theorem fm_congr{α β:Type}{f g:α→List β}:∀{l:List α},(∀i∈l,f i=g i)→l.flatMap f=l.flatMap g:=by
 intro l
 induction l with
 |nil=>intro _;rfl
 |cons x l ih=>intro h;rw[List.flatMap_cons,List.flatMap_cons,h x List.mem_cons_self,ih fun i hi=>h i (List.mem_cons_of_mem _ hi)]
def arrP(F:Nat→Sp)(l:List Nat):List U:=l.flatMap fun i=>[U.int .i64 (F i).1,U.int .i64 (F i).2]
def arrC(F:Nat→Sp):List U:=arrP F (List.range 41)
theorem arrP_len(F:Nat→Sp)(l:List Nat):(arrP F l).length=l.length*2:=by
 unfold arrP
 induction l with
 |nil=>rfl
 |cons x l ih=>rw[List.flatMap_cons,List.length_append,ih,List.length_cons];simp;omega
theorem zDJ(F:Nat→Sp):(arrC F).length=82:=by unfold arrC;rw[arrP_len,List.length_range]
theorem zCd{F:Nat→Sp}{u:U}(h:u∈arrC F):∃n:Int,u=.int .i64 n:=by
 unfold arrC arrP at h
 obtain⟨i,_,h⟩:=List.mem_flatMap.1 h
 simp only[List.mem_cons,List.not_mem_nil,or_false]at h
 rcases h with rfl|rfl<;>exact⟨_,rfl⟩
theorem arr_dg(F:Nat→Sp):(arrC F).map dg=arrC F:=by
 rw[←List.map_id (arrC F),List.map_map]
 refine List.map_congr_left fun u hu=>?_
 obtain⟨n,rfl⟩:=zCd hu
 rfl
theorem arr_one(F:Nat→Sp):(arrC F).all oneU=true:=by
 rw[List.all_eq_true]
 intro u hu
 obtain⟨n,rfl⟩:=zCd hu
 rfl
theorem arr_flatC(F:Nat→Sp):(arrC F).all flatC=true:=by
 rw[List.all_eq_true]
 intro u hu
 obtain⟨n,rfl⟩:=zCd hu
 rfl
theorem arr_congr{F G:Nat→Sp}(h:∀j,j<41→F j=G j):arrC F=arrC G:=by
 unfold arrC arrP
 refine fm_congr fun i hi=>?_
 rw[h i (List.mem_range.1 hi)]
theorem range_split{j:Nat}(h:j<41):List.range 41=List.range j++(j::List.range' (j+1) (40 - j)):=by
 rw[show(j::List.range' (j+1) (40 - j))=List.range' j (41 - j) by rw[show 41 - j=(40 - j)+1 by omega];rfl,List.range_eq_range',List.range_eq_range']
 have:=@List.range'_append 0 j (41 - j) 1
 rw[show 0+1*j=j by omega,show j+(41 - j)=41 by omega]at this
 exact this.symm
theorem zHF(F:Nat→Sp){j:Nat}(h:j<41):∃l1 l2,arrC F=l1++([U.int .i64 (F j).1,U.int .i64 (F j).2]++l2)∧l1.length=j*2∧∀v:Sp,arrC (updS F j v)=l1++([U.int .i64 v.1,U.int .i64 v.2]++l2):=by
 have key:∀G:Nat→Sp,arrC G=arrP G (List.range j)++([U.int .i64 (G j).1,U.int .i64 (G j).2]++arrP G (List.range' (j+1) (40 - j))):=fun G=>by
  unfold arrC arrP
  rw[range_split h,List.flatMap_append,List.flatMap_cons]
 refine⟨_,_,key F,by rw[arrP_len,List.length_range],fun v=>?_⟩
 rw[key]
 have e1:arrP (updS F j v) (List.range j)=arrP F (List.range j):=by
  unfold arrP
  refine fm_congr fun i hi=>?_
  have:=List.mem_range.1 hi
  rw[show updS F j v i=F i from if_neg (by omega)]
 have e2:arrP (updS F j v) (List.range' (j+1) (40 - j))=arrP F (List.range' (j+1) (40 - j)):=by
  unfold arrP
  refine fm_congr fun i hi=>?_
  have:=(List.mem_range'_1.1 hi).1
  rw[show updS F j v i=F i from if_neg (by omega)]
 rw[e1,e2,show updS F j v j=v from if_pos rfl]
theorem arr_take(F:Nat→Sp){n:Nat}(h:n≤41):yW ((List.range n).map fun j=>spU (F j))=(arrC F).take (n*2):=by
 have e:yW ((List.range n).map fun j=>spU (F j))=arrP F (List.range n):=by
  unfold yW arrP
  rw[List.flatMap_map]
  rfl
 have e2:List.range 41=List.range n++List.range' n (41 - n):=by
  rw[List.range_eq_range',List.range_eq_range']
  have:=@List.range'_append 0 n (41 - n) 1
  rw[show 0+1*n=n by omega,show n+(41 - n)=41 by omega]at this
  exact this.symm
 rw[e]
 unfold arrC
 rw[e2]
 unfold arrP
 rw[List.flatMap_append]
 rw[show n*2=(List.flatMap (fun i=>[U.int .i64 (F i).1,U.int .i64 (F i).2]) (List.range n)).length from(by have:=arrP_len F (List.range n);rw[List.length_range]at this;exact this.symm),List.take_left]
section rules
variable {P:Program}{is:FuncId→Bool}{orc:Known}{all L:List Oper}{s:St}{d a off j:Nat}{x y:Operand}{t' t:TypeId}{p:String}{e:Array Edge}{Q:St→Prop}{F:Nat→Sp}
theorem o_boxA(hd:Nat.blt d 1024=true)(hx:zQ s x=.agg (arrC F))(k:WpO P is orc all L ((s.newB (arrC F)).put d (.box s.st.length 0)) Q):WpO P is orc all (⟨some d,.box t' x,t,p,e,none⟩::L) s Q:=by
 refine ya hd (by rw[hx];rfl) ?_
 rw[hx]
 show WpO P is orc all L ((s.newB ((arrC F).map dg)).put d _) Q
 rw[arr_dg];exact k
theorem zAQ{z:V}(hd:Nat.blt d 1024=true)(hz:yf P t'=some z)(hu:zBu z=arrC F)(k:WpO P is orc all L ((s.newB (arrC F)).put d (.box s.st.length 0)) Q):WpO P is orc all (⟨some d,.alloc t',t,p,e,none⟩::L) s Q:=by
 refine zi hd hz ?_
 rw[hu];exact k
theorem zDC(hd:Nat.blt d 1024=true)(hx:zQ s x=.box a 0)(hb:s.st[a]? =some (.box (arrC F)))(hsh:shOf P t'=.many 82)(k:WpO P is orc all L (s.put d (.agg (arrC F))) Q):WpO P is orc all (⟨some d,.load t' x,t,p,e,none⟩::L) s Q:=
 o_loadW hd hx hb hsh (zDJ F) k
theorem zEu{G:Nat→Sp}(hx:zQ s x=.box a 0)(hb:s.st[a]? =some (.box (arrC G)))(hsh:shOf P t'=.many 82)(hy:zQ s y=.agg (arrC F))(k:WpO P is orc all L (s.wr a (arrC F)) Q):WpO P is orc all (⟨none,.store t' x y,t,p,e,none⟩::L) s Q:=
 o_storeW hx hb hsh hy (zDJ F) rfl (zDJ G) (arr_one F) (arr_dg F) k
theorem o_ldA(j:Nat)(hj:j<41)(hd:Nat.blt d 1024=true)(hx:zQ s x=.box a off)(ho:j*2=off)(hb:s.st[a]? =some (.box (arrC F)))(hsh:shOf P t'=.many 2)(k:WpO P is orc all L (s.put d (spU (F j))) Q):WpO P is orc all (⟨some d,.load t' x,t,p,e,none⟩::L) s Q:=by
 obtain⟨l1,l2,h1,h2,_⟩:=zHF F hj
 rw[h1]at hb
 exact o_loadP hd hx hb hsh (by omega) rfl k
theorem o_stA(j:Nat){v:Sp}(hj:j<41)(hx:zQ s x=.box a off)(ho:j*2=off)(hb:s.st[a]? =some (.box (arrC F)))(hsh:shOf P t'=.many 2)(hy:zQ s y=spU v)(k:WpO P is orc all L (s.wr a (arrC (updS F j v))) Q):WpO P is orc all (⟨none,.store t' x y,t,p,e,none⟩::L) s Q:=by
 obtain⟨l1,l2,h1,h2,h3⟩:=zHF F hj
 rw[h1]at hb
 exact o_storeP hx hb hsh hy (by omega) rfl rfl rfl rfl rfl (h3 v) k
theorem o_ldR(j:Nat)(hj:j<41)(hd:Nat.blt d 1024=true)(hx:zQ s x=.eref (arrC F) off)(ho:j*2=off)(hsh:shOf P t'=.many 2)(k:WpO P is orc all L (s.put d (spU (F j))) Q):WpO P is orc all (⟨some d,.load t' x,t,p,e,none⟩::L) s Q:=by
 obtain⟨l1,l2,h1,h2,_⟩:=zHF F hj
 refine yL hd hx hsh (by rw[Nat.ble_eq,zDJ];omega) ?_
 rw[h1,←ho,←h2,List.drop_left]
 exact k
end rules
variable {is:FuncId→Bool}{orc:Known}
theorem sh92:shOf Tryz.prog 92=.many 82:=by kernel_rfl
theorem ty92:tyOf Tryz.prog 92=.array 41 35:=by kernel_rfl
theorem ze92:yf Tryz.prog 92=some ((.cons (.int .i64 0) (.cons (.int .i64 0) (.cons (.int .i64 0) (.cons (.int .i64 0) (.cons (.int .i64 0) (.cons (.int .i64 0) (.cons (.int .i64 0) (.cons (.int .i64 0) (.cons (.int .i64 0) (.cons (.int .i64 0) (.cons (.int .i64 0) (.cons (.int .i64 0) (.cons (.int .i64 0) (.cons (.int .i64 0) (.cons (.int .i64 0) (.cons (.int .i64 0) (.cons (.int .i64 0) (.cons (.int .i64 0) (.cons (.int .i64 0) (.cons (.int .i64 0) (.cons (.int .i64 0) (.cons (.int .i64 0) (.cons (.int .i64 0) (.cons (.int .i64 0) (.cons (.int .i64 0) (.cons (.int .i64 0) (.cons (.int .i64 0) (.cons (.int .i64 0) (.cons (.int .i64 0) (.cons (.int .i64 0) (.cons (.int .i64 0) (.cons (.int .i64 0) (.cons (.int .i64 0) (.cons (.int .i64 0) (.cons (.int .i64 0) (.cons (.int .i64 0) (.cons (.int .i64 0) (.cons (.int .i64 0) (.cons (.int .i64 0) (.cons (.int .i64 0) (.cons (.int .i64 0) (.cons (.int .i64 0) (.cons (.int .i64 0) (.cons (.int .i64 0) (.cons (.int .i64 0) (.cons (.int .i64 0) (.cons (.int .i64 0) (.cons (.int .i64 0) (.cons (.int .i64 0) (.cons (.int .i64 0) (.cons (.int .i64 0) (.cons (.int .i64 0) (.cons (.int .i64 0) (.cons (.int .i64 0) (.cons (.int .i64 0) (.cons (.int .i64 0) (.cons (.int .i64 0) (.cons (.int .i64 0) (.cons (.int .i64 0) (.cons (.int .i64 0) (.cons (.int .i64 0) (.cons (.int .i64 0) (.cons (.int .i64 0) (.cons (.int .i64 0) (.cons (.int .i64 0) (.cons (.int .i64 0) (.cons (.int .i64 0) (.cons (.int .i64 0) (.cons (.int .i64 0) (.cons (.int .i64 0) (.cons (.int .i64 0) (.cons (.int .i64 0) (.cons (.int .i64 0) (.cons (.int .i64 0) (.cons (.int .i64 0) (.cons (.int .i64 0) (.cons (.int .i64 0) (.cons (.int .i64 0) (.cons (.int .i64 0) (.cons (.int .i64 0) (.cons (.int .i64 0) (.cons (.int .i64 0) .nil)))))))))))))))))))))))))))))))))))))))))))))))))))))))))))))))))))))))))))))))))):V):=by kernel_rfl
noncomputable def b141:Code:=(Tryz.f141.body).getD .skip
theorem body141:bodyOf Tryz.prog 141=some (29,b141,[.cell 4 92]):=by kernel_rfl
theorem pure141:pureFn Tryz.prog 141=true:=by kernel_rfl
def wc:Nat→Sp:=fun _=>(0,0)
def zh(L:List Sp)(i:Nat):Sp:=(L[i]?).getD (0,0)
theorem zBE(F:Nat→Sp)(k:Nat):Dat (k+2) (.agg (arrC F)):=.agg _ _ fun u hu=>by
 obtain⟨n,rfl⟩:=zCd hu
 exact .int _ _ _
theorem zAL:zBu ((.cons (.int .i64 0) (.cons (.int .i64 0) (.cons (.int .i64 0) (.cons (.int .i64 0) (.cons (.int .i64 0) (.cons (.int .i64 0) (.cons (.int .i64 0) (.cons (.int .i64 0) (.cons (.int .i64 0) (.cons (.int .i64 0) (.cons (.int .i64 0) (.cons (.int .i64 0) (.cons (.int .i64 0) (.cons (.int .i64 0) (.cons (.int .i64 0) (.cons (.int .i64 0) (.cons (.int .i64 0) (.cons (.int .i64 0) (.cons (.int .i64 0) (.cons (.int .i64 0) (.cons (.int .i64 0) (.cons (.int .i64 0) (.cons (.int .i64 0) (.cons (.int .i64 0) (.cons (.int .i64 0) (.cons (.int .i64 0) (.cons (.int .i64 0) (.cons (.int .i64 0) (.cons (.int .i64 0) (.cons (.int .i64 0) (.cons (.int .i64 0) (.cons (.int .i64 0) (.cons (.int .i64 0) (.cons (.int .i64 0) (.cons (.int .i64 0) (.cons (.int .i64 0) (.cons (.int .i64 0) (.cons (.int .i64 0) (.cons (.int .i64 0) (.cons (.int .i64 0) (.cons (.int .i64 0) (.cons (.int .i64 0) (.cons (.int .i64 0) (.cons (.int .i64 0) (.cons (.int .i64 0) (.cons (.int .i64 0) (.cons (.int .i64 0) (.cons (.int .i64 0) (.cons (.int .i64 0) (.cons (.int .i64 0) (.cons (.int .i64 0) (.cons (.int .i64 0) (.cons (.int .i64 0) (.cons (.int .i64 0) (.cons (.int .i64 0) (.cons (.int .i64 0) (.cons (.int .i64 0) (.cons (.int .i64 0) (.cons (.int .i64 0) (.cons (.int .i64 0) (.cons (.int .i64 0) (.cons (.int .i64 0) (.cons (.int .i64 0) (.cons (.int .i64 0) (.cons (.int .i64 0) (.cons (.int .i64 0) (.cons (.int .i64 0) (.cons (.int .i64 0) (.cons (.int .i64 0) (.cons (.int .i64 0) (.cons (.int .i64 0) (.cons (.int .i64 0) (.cons (.int .i64 0) (.cons (.int .i64 0) (.cons (.int .i64 0) (.cons (.int .i64 0) (.cons (.int .i64 0) (.cons (.int .i64 0) (.cons (.int .i64 0) (.cons (.int .i64 0) (.cons (.int .i64 0) (.cons (.int .i64 0) .nil)))))))))))))))))))))))))))))))))))))))))))))))))))))))))))))))))))))))))))))))))):V)=arrC wc:=by rfl
structure StOk(L:List Sp):Prop where
 n:L.length≤40
 b:∀x∈L, -100000≤x.1∧x.1≤100000∧ -100000≤x.2∧x.2≤100000
theorem StOk.at{L:List Sp}(h:StOk L){i:Nat}(hi:i<L.length): -100000≤(zh L i).1∧(zh L i).1≤100000∧ -100000≤(zh L i).2∧(zh L i).2≤100000:=by
 refine h.b _ ?_
 unfold zh
 rw[List.getElem?_eq_getElem hi]
 exact List.getElem_mem _
theorem steps_at{L:List Sp}{i:Nat}{x:Sp}(h:L[i]? =some x):zh L i=x:=by unfold zh;rw[h];rfl
set_option maxHeartbeats 8000000 in
theorem ret141(hi:Off is)(F:Nat→Sp)(L:List Sp)(h:StOk L)(hF:Bnd L.length 100000000 F):RetP Tryz.prog is orc 141 [.agg (arrC F),.lst .ro 2 (spsU L)] (.agg (arrC (zr L.length F (zh L)))):=by
 refine yp body141 pure141 (hi 141 (by decide)) rfl rfl (wQ (zBE F 6) (zBD L 6)) (.inl (zBE _ 6)) ?_
 have hn:=h.n
 have hb:=forth_bnd (n:=L.length) (T:=zh L) hF (C:=100000) (by decide) fun i hi=>h.at hi
 refine kQ (o_boxA rfl rfl ?_)
 refine zAQ rfl ze92 zAL ?_
 refine zA ?_
 refine zL [(1,.lst .ro 2 (spsU L)),(2,U.box 0 0),(4,U.box 1 0)] ([SB.box (arrC F),SB.box (arrC wc)]) (.n3 rfl) rfl fun fr=>?_
 refine k_seq (kQ (zD rfl (zz rfl ty23 rfl (List.length_map _) ?_)))
 refine zD rfl (zA (zR ?_))
 refine yq (fun k st=>∃i:Nat,k+i=L.length∧(∃e,st.st=SB.box (arrC (zr i F (zh L)))::SB.box (arrC wc)::e)∧Holds st [(2,.box 0 0),(4,.box 1 0),(7,.lst .ro 2 (spsU L)),(8,.int .i64 L.length),(9,.int .i64 i)]) (fun k st hI=>?_) L.length _ ⟨0,rfl,⟨[],by rw[forth_start];rfl⟩,.c4 rfl rfl rfl rfl (.n1 rfl)⟩
 obtain⟨i,hk,⟨e,hst⟩,hs⟩:=hI
 by_cases hin:i<L.length
 ·obtain⟨x,hx⟩:∃x,L[i]? =some x:=⟨L[i],List.getElem?_eq_getElem hin⟩
  have hxu:(spsU L)[i]? =some (spU x):=by rw[List.getElem?_map,hx];rfl
  have hm:=forth_more i F (zh L)
  have hbi:=hb i (by omega)
  rw[show zr L.length F (zh L) i=zr i F (zh L) i by unfold zr;rw[if_pos (by omega),if_pos (by omega)]]at hbi
  have hxb:=h.at hin
  rw[steps_at hx]at hm hxb
  have hFi:F (i+1)=zr i F (zh L) (i+1):=(zEc _ _ (by omega)).symm
  rw[hFi]at hm
  generalize zr i F (zh L)=G at*
  obtain⟨x1,x2⟩:=x
  obtain⟨g1,hg1⟩:∃g,G i=g:=⟨_,rfl⟩
  obtain⟨g2,hg2⟩:∃g,G (i+1)=g:=⟨_,rfl⟩
  rw[hg1]at hbi hm
  rw[hg2]at hm
  obtain⟨a1,b1⟩:=g1
  obtain⟨a2,b2⟩:=g2
  have q1:=ret103 (orc:=orc) hi a1 b1 x1 x2 (by unfold I64;simp only at hbi hxb;omega) (by unfold I64;simp only at hbi hxb;omega)
  have q2:=ret122 (orc:=orc) hi a2 b2 (a1+x1) (b1+x2)
  generalize hY:SB.box (arrC G)::SB.box (arrC wc)::e=Y at hst
  have y0:Y[0]? =some (.box (arrC G)):=by rw[←hY];rfl
  refine zL _ _ hs hst fun fr=>?_
  refine kQ (kp rfl (zA (k_seq (k_cT rfl (kF (by omega)) (zV (k_seq (zR (kQ (zD rfl (wb (u:=spU (x1,x2)) rfl ty23 rfl rfl (Int.natCast_nonneg _) hxu cl35 ?_))))))))))
  refine yL rfl rfl sh35 rfl ?_
  refine zi rfl ze35 ?_
  refine zE rfl (zS rfl (zT _ _) sh35 rfl rfl rfl rfl rfl ?_)
  refine zA ?_
  refine zL [(2,U.box 0 0),(4,U.box 1 0),(5,.int .i64 ↑i),(6,U.box (List.length Y) 0),(7,.lst .ro 2 (spsU L)),(8,.int .i64 ↑(List.length L)),(9,.int .i64 ↑i)] (Y++[SB.box [.int .i64 (Prod.fst (x1,x2)),.int .i64 (Prod.snd (x1,x2))]]) (.n7 rfl) (yK _ _ _) fun fr=>?_
  refine wM [.plain,.plain,.plain,.plain,.plain,.read true,.plain,.plain,.read true,.read true,.read false,.plain,.plain,.plain] (by kernel_rfl) (by kernel_rfl) (by kernel_rfl) ?_
  refine zC (zD rfl (zA rfl)) ?_
  refine zC (kz rfl (by unfold I64;omega) (zA rfl)) ?_
  refine zC (zD rfl (zA rfl)) ?_
  refine zC (kz rfl (by unfold I64;omega) (zA rfl)) ?_
  refine zC (zAt rfl ty92 rfl rfl (by omega) (by omega) cl35 (zA rfl)) ?_
  refine zJ rfl (o_ldA (F:=G) (i+1) (by omega) rfl rfl (by omega) (zn y0) sh35 (by rw[hg2];exact zA rfl)) ?_
  refine zC (zD rfl (zA rfl)) (zC (zAt rfl ty92 rfl rfl (by omega) (by omega) cl35 (zA rfl)) ?_)
  refine zJ rfl (o_ldA (F:=G) i (by omega) rfl rfl (by omega) (zn y0) sh35 (by rw[hg1];exact zA rfl)) ?_
  refine zp [(2,U.box 0 0),(4,U.box 1 0),(6,U.box (List.length Y) 0),(7,.lst .ro 2 (spsU L)),(8,.int .i64 ↑(List.length L)),(9,.int .i64 ↑i),(15,.int .i64 (↑i+(1:Int))),(19,spU (a2,b2)),(22,spU (a1,b1))] [] (Y++[SB.box [.int .i64 (Prod.fst (x1,x2)),.int .i64 (Prod.snd (x1,x2))]]) (.n9 rfl) rfl rfl fun fr=>?_
  refine zJ rfl (zg rfl rfl (zT _ _) sh35 rfl (zA rfl)) ?_
  refine yH rfl (q1) (zf _ _) (.lrefl _) ?_
  refine zC (zY rfl (q2) (.lrefl _) (zA rfl)) ?_
  refine zC (zAt rfl ty92 rfl rfl (by omega) (by omega) cl35 (zA rfl)) ?_
  refine zC (o_stA (F:=G) (i+1) (v:=(max a2 (a1+x1),min b2 (b1+x2))) (by omega) rfl (by omega) (zn y0) sh35 rfl (zA rfl)) ?_
  refine zAK ?_
  refine zL [(2,U.box 0 0),(4,U.box 1 0),(7,.lst .ro 2 (spsU L)),(8,.int .i64 ↑(List.length L)),(9,.int .i64 ↑i)] (List.set (Y++[SB.box [.int .i64 (Prod.fst (x1,x2)),.int .i64 (Prod.snd (x1,x2))]]) 0 (SB.box (arrC (updS G (i+1) (Max.max a2 (a1+x1),Min.min b2 (b1+x2)))))) (.n5 rfl) rfl fun fr=>?_
  refine k_region ?_
  refine kz rfl (by unfold I64;omega) (zD rfl (zA ?_))
  refine⟨k - 1,by omega,i+1,by omega,?_,.c4 rfl rfl rfl rfl (.n1 rfl)⟩
  rw[hm,←hY]
  exact⟨_,rfl⟩
 ·obtain rfl:i=L.length:=by omega
  generalize zr L.length F (zh L)=G at*
  refine zL _ _ hs hst fun fr=>?_
  refine kQ (kp rfl (zA (k_seq (k_cF rfl (kG (by omega)) (yj (kQ (zDC (F:=G) rfl rfl rfl sh92 ?_)))))))
  refine zEu (F:=G) (G:=wc) rfl rfl sh92 rfl ?_
  refine zA (zw ?_)
  refine⟨.inr rfl,_,.cons _ _ _ _ (.cellN 4 92 _ _ _ _ rfl rfl sh92 rfl) .nil,?_⟩
  exact .refl _
end
section
variable {is:FuncId→Bool}{orc:Known}
theorem Bd.mono{n m:Nat}{u:U}(h:Bd n u)(hm:n≤m):Bd m u:=fun φ S v hv=>(h φ S v hv).mono (fun a b e=>BMap.cut_of (by have:=(BMap.cut_some e).1;omega) (BMap.cut_some e).2) S.le_refl
theorem BdS.mono{n m:Nat}{x:SB}(h:BdS n x)(hm:n≤m):BdS m x:=by
 cases x with
 |box cs=>exact fun c hc=>Bd.mono (h c hc) hm
 |froz cs=>exact fun c hc=>Bd.mono (h c hc) hm
 |map es=>exact fun p hp=>⟨Bd.mono (h p hp).1 hm,Bd.mono (h p hp).2 hm⟩
 |loop q l=>exact fun i=>Bd.mono (h i) hm
 |dead=>trivial
 |fmap es=>exact fun p hp=>⟨Bd.mono (h p hp).1 hm,Bd.mono (h p hp).2 hm⟩
theorem zBH{P Q:List SB}{n:Nat}(h:P.length=n):(P++Q).take n=P:=by rw[←h,List.take_left]
theorem take_n1{Z e:List SB}{y:SB}{n:Nat}(h:Z.length=n):(Z++(y::e)).take (n+1)=Z++[y]:=by
 rw[show Z++(y::e)=(Z++[y])++e by simp,zBH (by simp[h])]
theorem at_n{Z e:List SB}{y:SB}{n:Nat}(h:Z.length=n):(Z++(y::e))[n]? =some y:=by rw[←h];simp
theorem set_n{Z e:List SB}{y x:SB}{n:Nat}(h:Z.length=n):(Z++(y::e)).set n x=Z++(x::e):=by
 rw[List.set_append_right _ _ (by omega),h,Nat.sub_self];rfl
theorem bd_e{e:List SB}{n:Nat}{y:SB}(h:∀x∈e,BdS (n+1+e.length) x)(hy:∀m,BdS m y):∀x∈e++[y],BdS (n+1+(e++[y]).length) x:=fun x hx=>by
 rcases List.mem_append.1 hx with hx|hx
 ·exact BdS.mono (h x hx) (by simp)
 ·rcases List.mem_singleton.1 hx with rfl;exact hy _
theorem lookU_all{p:U→Prop}{l:List (Nat×U)}{d:U}(h:∀x∈l,p x.2)(hd:p d)(i:Nat):p (zCD l i d):=by
 induction l with
 |nil=>exact hd
 |cons x l ih=>
  obtain⟨j,u⟩:=x
  show p (Vam.cond (Nat.beq i j) u (zCD l i d))
  cases Nat.beq i j with
  |true=>exact h _ List.mem_cons_self
  |false=>exact ih fun y hy=>h y (List.mem_cons_of_mem _ hy)
structure CnsN{α:Type}(enc:α→List U)(m N A:Nat)(lp:Lp)(I:List α→List SB→Prop)(els:List α):Prop where
 len:∀l st,I l st→N≤st.length
 tk:∀l st,I l st→I l (st.take N)
 ap:∀l st y,I l st→(∀m,BdS m y)→I l (st++[y])
 bd:∀l st,I l st→∀x∈st.take N,BdS N x
 bl:∀l st,I l st→st[A]? =some (.loop .ready lp)
 own:∀i,zFj (lp.fr i)
 ps:lp.ps.length=m∧lp.ps.all (fun p=>Nat.blt p 1024)=true
 run:∀(is:FuncId→Bool) (orc:Known),Off is→∀l q r st,els=l++q::r→I l st→WpY Tryz.prog is orc A lp (enc q) st fun u st'=>u=.bool true∧I (l++[q]) st'
def GenN{α:Type}(enc:α→List U)(m g:Nat)(B:List U)(caps:List SB→Prop)(els:List α):Prop:=
 ∀(is:FuncId→Bool) (orc:Known),Off is→∀{N A:Nat} {lp:Lp} {I:List α→List SB→Prop},CnsN enc m N A lp I els→∀st,st.length=N→I [] st→(∀l st,I l st→caps st)→
  WpC Tryz.prog is orc g (.yld A::B) st fun _ st'=>st'.length=N∧I els st'
def Inv{α:Type}(I:List α→List SB→Prop)(n:Nat)(lp:Lp)(l:List α)(st:List SB):Prop:=∃Z e,I l Z∧Z.length=n∧(∀x∈e,BdS (n+1+e.length) x)∧st=Z++(.loop .ready lp::e)
theorem cns_of{α:Type}{enc:α→List U}{m n:Nat}{lp:Lp}{I:List α→List SB→Prop}{els:List α}(hbd:∀l Z,I l Z→Z.length=n→∀x∈Z,BdS n x)(hlpb:∀i,Bd (n+1) (lp.fr i))(own:∀i,zFj (lp.fr i))
  (ps:lp.ps.length=m∧lp.ps.all (fun p=>Nat.blt p 1024)=true)
  (run:∀(is:FuncId→Bool) (orc:Known),Off is→∀l q r Z e,els=l++q::r→I l Z→Z.length=n→(∀x∈e,BdS (n+1+e.length) x)→WpY Tryz.prog is orc n lp (enc q) (Z++(.loop .ready lp::e)) fun u st'=>u=.bool true∧Inv I n lp (l++[q]) st'):CnsN enc m (n+1) n lp (Inv I n lp) els:=by
 refine⟨?_,?_,?_,?_,?_,own,ps,?_⟩
 ·rintro L st' ⟨Z,e,_,hZl,_,rfl⟩;simp[hZl]
 ·rintro L st' ⟨Z,e,hZ,hZl,_,rfl⟩;exact⟨Z,[],hZ,hZl,(fun x hx=>by cases hx),take_n1 hZl⟩
 ·rintro L st' y ⟨Z,e,hZ,hZl,hbe,rfl⟩ hy;exact⟨Z,e++[y],hZ,hZl,bd_e hbe hy,by simp⟩
 ·rintro L st' ⟨Z,e,hZ,hZl,hbe,rfl⟩ x hx
  rw[take_n1 hZl]at hx
  rcases List.mem_append.1 hx with hx|hx
  ·exact BdS.mono (hbd _ _ hZ hZl x hx) (by omega)
  ·rcases List.mem_singleton.1 hx with rfl
   exact hlpb
 ·rintro L st' ⟨Z,e,_,hZl,_,rfl⟩;exact at_n hZl
 ·rintro is orc hi l q r st' he ⟨Z,e,hZ,hZl,hbe,rfl⟩
  exact run is orc hi l q r Z e he hZ hZl hbe
theorem k_rangeN{α:Type}{enc:α→List U}{m g n:Nat}{B:List U}{caps:List SB→Prop}{els:List α}{lp:Lp}{I:List α→List SB→Prop}{s:St}{x:Operand}{ps:Array Tmp}{assign body:Code}{Q:Ex→St→Prop}(hi:Off is)
  (hg:GenN enc m g B caps els) (hx:zQ s x=.fn g [] B) (hc:CnsN enc m (n+1) n lp (Inv I n lp) els) (hcap:∀l Z r,I l Z→Z.length=n→caps (Z++r))
  (hbd:∀l Z,I l Z→Z.length=n→∀x∈Z,BdS n x) (hlp:lpOf s ps.toList assign body=lp) (hl:s.st.length=n) (hst:I [] s.st)
  (k1:∀Z,I els Z→Z.length=n→Q .normal ⟨s.fr,[],Z⟩):Wp Tryz.prog is orc (.rangeFunc x ps assign body) s Q:=by
 refine k_range hx ?_
 show WpC Tryz.prog is orc g ([]++([.yld s.st.length]++B)) _ _
 rw[hlp,hl]
 refine(hg is orc hi hc (s.st++[.loop .ready lp]) (by simp[hl]) ⟨s.st,[],hst,hl,(fun x hx=>by cases hx),rfl⟩ ?_).mono fun _ st' hs=>?_
 ·rintro l st' ⟨Z,e,hZ,hZl,_,rfl⟩;exact hcap _ _ _ hZ hZl
 ·obtain⟨h0,Z,e,hZ,hZl,_,rfl⟩:=hs
  have he:e=[]:=by
   rw[List.length_append,List.length_cons]at h0
   exact List.eq_nil_of_length_eq_zero (by omega)
  subst he
  exact⟨.ready,by rw[←hZl];exact zT _ _,by rw[zBH hZl];exact hbd _ _ hZ hZl,by rw[zBH hZl];exact k1 Z hZ hZl⟩
noncomputable def b151:Code:=(Tryz.f151.body).getD .skip
theorem body151:bodyOf Tryz.prog 151=some (4,b151,[.tmp 2]):=by kernel_rfl
theorem pure151:pureFn Tryz.prog 151=false:=by kernel_rfl
noncomputable def b153:Code:=(Tryz.f153.body).getD .skip
theorem body153:bodyOf Tryz.prog 153=some (19,b153,[]):=by kernel_rfl
theorem pure153:pureFn Tryz.prog 153=false:=by kernel_rfl
noncomputable def b142:Code:=(Tryz.f142.body).getD .skip
theorem body142:bodyOf Tryz.prog 142=some (24,b142,[.cell 4 92]):=by kernel_rfl
theorem pure142:pureFn Tryz.prog 142=true:=by kernel_rfl
def revE(L:List Sp):List (Nat×Sp):=(List.range L.length).map fun k=>(L.length - 1 - k,zh L (L.length - 1 - k))
def encS(q:Nat×Sp):List U:=[.int .i64 q.1,spU q.2]
theorem revE_len(L:List Sp):(revE L).length=L.length:=by simp[revE]
theorem revE_at{L:List Sp}{k:Nat}(h:k<L.length):(revE L)[k]? =some (L.length - 1 - k,zh L (L.length - 1 - k)):=by
 unfold revE;rw[List.getElem?_map,List.getElem?_range h];rfl
theorem wpc151(hi:Off is)(L:List Sp)(st:List SB):WpC Tryz.prog is orc 151 [.lst .ro 2 (spsU L)] st fun u st'=>u=.fn 153 [] [.box st.length 0]∧st'=st++[.box [.lst .ro 2 (spsU L)]]:=by
 refine zGI body151 pure151 rfl rfl ?_
 refine kQ (ya rfl rfl (zE rfl (zA ?_)))
 refine zL [(1,U.box (List.length st) 0)] (st++[SB.box [.lst .ro 2 (spsU L)]]) (.n1 rfl) rfl fun fr=>?_
 refine kQ ?_
 refine o_func rfl ?_
 refine zE rfl (zA (zw ?_))
 refine⟨.inr rfl,_,.cons _ _ _ _ (.tmp 2) .nil,?_⟩
 exact⟨_,.refl _,rfl,rfl⟩
theorem zGN{α:Type}{l:List α}{k:Nat}{x:α}(h:l[k]? =some x):l.take (k+1)=l.take k++[x]:=by rw[List.take_add_one,h];rfl
theorem split_at{α:Type}{l:List α}{k:Nat}{x:α}(h:l[k]? =some x):l=l.take k++x::l.drop (k+1):=by
 rw[←drop_at h,List.take_append_drop]
set_option maxHeartbeats 16000000 in
theorem gen153(c:Nat)(L:List Sp)(hL:L.length≤4096):GenN encS 2 153 [.box c 0] (fun st=>st[c]? =some (.box [.lst .ro 2 (spsU L)])) (revE L):=by
 intro is orc hi N A lp I hc st0 hl0 hI0 hcap
 have fin:∀st3:List SB,N≤st3.length→(∀x∈st3.take N,BdS N x)→st0.length≤st3.length∧(∀x∈st3.take st0.length,BdS st0.length x)∧(st3.take st0.length).length=N∧st3.take st0.length=st3.take N:=fun st3 h1 h2=>by
  rw[hl0]
  exact⟨h1,h2,by rw[List.length_take];omega,rfl⟩
 have c0:=hcap _ _ hI0
 refine zDk body153 pure153 rfl rfl ?_
 refine kQ (zI rfl rfl c0 sh23 rfl ?_)
 refine zz rfl ty23 rfl (List.length_map _) ?_
 refine zDc rfl rfl rfl (by unfold I64;omega) (zE rfl (zA (zR ?_)))
 refine yq (fun kk s2=>∃(k:Nat) (st1:List SB),kk+k=L.length∧I ((revE L).take k) st1∧s2.st=st1∧Holds s2 [(0,.yld A),(1,.box c 0),(3,.int .i64 ((L.length:Int) - 1 - k))]) (fun kk s2 hJ=>?_) L.length _ ⟨0,st0,rfl,hI0,rfl,.cons rfl (.cons rfl (.cons (congrArg (U.int .i64) (by omega)) (.nil rfl)))⟩
 obtain⟨k,st1,hk,hI1,hst2,hs2⟩:=hJ
 have c1:=hcap _ _ hI1
 refine zL _ _ hs2 hst2 fun fr2=>?_
 by_cases hin:k<L.length
 ·obtain⟨j,hj⟩:∃j:Nat,L.length - 1 - k=j:=⟨_,rfl⟩
  have hjx:L[j]? =some (zh L j):=by unfold zh;rw[List.getElem?_eq_getElem (by omega)];rfl
  have hju:(spsU L)[j]? =some (spU (zh L j)):=by rw[List.getElem?_map,hjx];rfl
  have hrx:=revE_at hin
  rw[hj]at hrx
  have hsn:=zGN hrx
  have hr:=hc.run is orc hi _ _ _ st1 (split_at hrx) hI1
  rw[←hsn]at hr
  have hbl:=hc.bl _ _ hI1
  rw[show(L.length:Int) - 1 - k=(j:Int) by omega]
  generalize zh L j=x at*
  refine k_seq (kQ (zD rfl (o_geq rfl rfl rfl (zA (k_cT rfl (kF (by omega)) (zV (k_seq (zR (kQ (zD rfl (zD rfl (zI rfl rfl c1 sh23 rfl ?_))))))))))))
  refine zD rfl (wb (u:=spU x) rfl ty23 rfl rfl (Int.natCast_nonneg _) hju cl35 ?_)
  refine yL rfl rfl sh35 rfl ?_
  refine o_yield (a:=A) rfl rfl hbl hc.own hc.ps.2 (by exact hc.ps.1) (.lrefl _) hr (fun u st3 hM=>?_)
  obtain⟨rfl,hI3⟩:=hM
  refine zCp rfl rfl (zA (k_cF rfl rfl ?_))
  refine zV (k_region (zD rfl ?_))
  refine zDc rfl rfl rfl (by unfold I64;omega) (zE rfl (zA ?_))
  exact⟨kk - 1,by omega,k+1,st3,by omega,hI3,rfl,.cons rfl (.cons rfl (.cons (congrArg (U.int .i64) (by omega)) (.nil rfl)))⟩
 ·obtain rfl:k=L.length:=by omega
  rw[List.take_of_length_le (by rw[revE_len];exact Nat.le_refl _)]at hI1
  refine k_seq (kQ (zD rfl (o_geq rfl rfl rfl (zA (k_cF rfl (kG (by omega)) (yj ?_))))))
  obtain⟨f1,f2,f4,f3⟩:=fin st1 (hc.len _ _ hI1) (hc.bd _ _ hI1)
  exact⟨.inl rfl,_,.nil,_,.refl _,Bd.tup (fun c hc=>by cases hc),f1,f2,f4,(by show I _ (st1.take st0.length);rw[f3];exact hc.tk _ _ hI1)⟩
end
end Go.Proofs.YtpckmojdekdbbaaGreat.settles
