import Derived.Test.YtfbmlibilcjlgaaDoorVamT16
set_option linter.unusedVariables false
set_option linter.unusedSimpArgs false
set_option linter.constructorNameAsVariable false
namespace Go.Proofs.YtfbmlibilcjlgaaDoor.drumBounds
open Vam
section
variable {is:FuncId→Bool}{orc:Known}{b:Bk}
noncomputable def rg110:Code×Code:=match b110 with
 | .seq _ (.seq (.seq _ (.block _ (.rangeFunc _ _ a b))) _)=>(a,b)
 |_=>(.skip,.skip)
noncomputable def lp110:Lp:=⟨fun i=>dg (zCA [(2,.box 1 0),(4,.fn 121 [] [.box 4 0,.box 5 0])] i .junk),[5],rg110.1,rg110.2⟩
abbrev Z110(b:Bk)(z:Bool):List SB:=[.box [.int .i64 b.parts,.int .i64 b.size,.lst .ro 1 (zG b.beats),.int .i64 b.start,.int .i64 b.fin,.int .i64 b.tlo,.int .i64 b.thi,.int .i64 b.slo,.int .i64 b.shi,.int .i64 b.notice,.lst .ro 3 (plsU b.players)],.box [.bool z]]++plC b 2
theorem bd_Z110(b:Bk)(z:Bool):∀x∈Z110 b z,BdS 6 x:=fun x hx=>by
 rcases List.mem_append.1 hx with hx|hx
 ·simp only[List.mem_cons,List.not_mem_nil,or_false]at hx
  rcases hx with rfl|rfl
  ·exact bd_bk b _
  ·intro c hc;rcases List.mem_singleton.1 hc with rfl;exact Bd.bool _ _
 ·exact bd_plC b 2 x hx
theorem cns110(b:Bk):Cns 7 6 lp110 (fun _=>true) (fun _=>Z110 b false++[.loop .ready lp110]) (Z110 b true++[.loop (.done .ret) lp110]) (POk b):=by
 have hlp:∀i,Bd 7 (lp110.fr i):=by
  refine lookU_all (p:=fun u=>Bd 7 (dg u)) ?_ (Bd.junk _)
  intro x hx
  simp only[List.mem_cons,List.not_mem_nil,or_false]at hx
  rcases hx with rfl|rfl
  ·exact Bd.box (by omega)
  ·refine Bd.fn (fun u hu=>by cases hu) fun u hu=>?_
   simp only[List.mem_cons,List.not_mem_nil,or_false]at hu
   rcases hu with rfl|rfl<;>exact Bd.box (by omega)
 have bd1:∀z q,∀x∈Z110 b z++[.loop q lp110],BdS 7 x:=fun z q x hx=>by
  rcases List.mem_append.1 hx with hx|hx
  ·exact BdS.mono (bd_Z110 b z x hx) (by omega)
  ·rcases List.mem_singleton.1 hx with rfl;exact hlp
 refine⟨fun l=>rfl,rfl,fun l=>bd1 _ _,bd1 _ _,fun l=>rfl,fun i=>zCR _,⟨5,rfl,rfl⟩,fun is orc hi l q e hq=>?_⟩
 show Wp _ _ _ rg110.1 _ _
 refine zQ ⟨rfl,rfl,?_⟩
 show Wp _ _ _ rg110.2 _ _
 refine zH [(2,.box 1 0)] ((Z110 b false++[.loop .busy lp110])++e) (.cons rfl (.nil rfl)) rfl fun fr=>?_
 refine zL (kQ (zAP rfl rfl sh4 rfl rfl (zA (zU ?_))))
 refine⟨rfl,.inr ⟨rfl,rfl,[],?_⟩⟩
 rw[List.append_nil];rfl
theorem any_true(l:List (List Int)):l.any (fun _=>true)=decide (l≠[]):=by cases l<;>simp
set_option maxHeartbeats 8000000 in
theorem ret110(hi:Off is)(hb:BOk b):RetP Tryd.prog is orc 110 [b.u] (.bool (decide (zEc b≠[]))):=by
 refine zk body110 pure110 (hi 110 (by decide)) rfl rfl (zAH (yK b 4)) (.inl (.bool _ _)) ?_
 refine kQ (zc rfl rfl (zi rfl ze4 ?_))
 refine zA ?_
 refine zH [(1,U.box 0 0),(2,U.box 1 0)] ([SB.box (Bk.cs b),SB.box [.bool false]]) (.cons rfl (.cons rfl (.nil rfl))) rfl fun fr=>?_
 refine k_seq (kQ (zJ rfl rfl rfl sh75 rfl ?_))
 refine zBM rfl (wpc76 b _) (.lrefl _) (fun u st1 hM=>?_)
 obtain⟨rfl,rfl⟩:=hM
 refine zA (zL (k_forget [(2,.box 1 0),(4,.fn 121 [] [.box 4 0,.box 5 0])] (Z110 b false) (.cons rfl (.cons rfl (.nil rfl))) rfl ?_))
 rw[←any_true]
 refine k_rangeG (n:=6) (stop:=fun _=>true) (Z:=fun _=>Z110 b false) (DZ:=Z110 b true) (ex:=.ret) hi (genPlans hb 2) rfl (cns110 b) (fun l=>rfl) rfl (fun c hc l=>plK_at (st:=[.box (Bk.cs b),.box [.bool false]]) c hc []) (fun _=>bd_Z110 b false) (bd_Z110 b true) rfl rfl (fun h=>?_) (fun h=>?_)
 ·rw[h]
  refine zH [(2,.box 1 0)] (Z110 b false) (.cons rfl (.nil rfl)) rfl fun fr=>?_
  refine kQ (zAP rfl rfl sh4 rfl rfl (zA (zU ?_)))
  refine⟨.inr rfl,_,.cons _ _ _ _ (.cell1 2 4 _ _ _ _ rfl rfl sh4 rfl) .nil,?_⟩
  exact .refl _
 ·rw[h]
  exact⟨.inr rfl,_,.cons _ _ _ _ (.cell1 2 4 1 0 [.bool true] (.bool true) rfl rfl sh4 rfl) .nil,.refl _⟩
end
section
variable {is:FuncId→Bool}{orc:Known}{b:Bk}
noncomputable def b107:Code:=(Tryd.f107.body).getD .skip
theorem body107:bodyOf Tryd.prog 107=some (26,b107,[.tmp 4]):=by kernel_rfl
theorem pure107:pureFn Tryd.prog 107=false:=by kernel_rfl
structure Least(f:Nat→Bool)(n i:Nat):Prop where
 le:i≤n
 lo:∀j,j<i→f j=false
 hi:∀j,i≤j→j<n→f j=true
set_option maxHeartbeats 8000000 in
theorem wpc107(hi:Off is){g:Nat}{B:List U}{f:Nat→Bool}{n:Nat}(hn:n≤100000)(hmono:∀i j,i≤j→j<n→f i=true→f j=true){st:List SB}(hg:∀(i:Nat) e,i<n→WpC Tryd.prog is orc g ([.int .i64 i]++B) (st++e) fun u st'=>u=.bool (f i)∧∃e',st'=(st++e)++e'):
  WpC Tryd.prog is orc 107 [.int .i64 n,.fn g [] B] st fun u st'=>(∃i,Least f n i∧u=.int .i64 i)∧∃e,st'=st++e:=by
 refine zAW body107 pure107 rfl rfl ?_
 refine kQ (zB rfl (zA (kQ (zC rfl (zB rfl (zB rfl (zA (k_seq ?_))))))))
 refine zL ?_
 refine yh (fun kk s2=>∃(i j:Nat),kk+i=j∧j≤n∧(∀k,k<i→f k=false)∧(∀k,j≤k→k<n→f k=true)∧(∃e,s2.st=st++e)∧Holds s2 [(1,.fn g [] B),(5,.int .i64 i),(6,.int .i64 j)]) (fun kk s2 hI=>?_) n _ ⟨0,n,rfl,Nat.le_refl _,(fun k h=>by omega),(fun k h h2=>by omega),⟨[],(by show st=st++[];rw[List.append_nil])⟩,.cons rfl (.cons rfl (.cons rfl (.nil rfl)))⟩
 obtain⟨i,j,hk,hjn,h1,h2,⟨e,hst2⟩,hs2⟩:=hI
 refine zH _ _ hs2 hst2 fun fr2=>?_
 by_cases hij:i<j
 ·obtain⟨h,hh⟩:∃h,h=(i+j) / 2:=⟨_,rfl⟩
  have hfd:((i:Int)+j).fdiv (2 ^ 1)=h:=by
   rw[Int.fdiv_eq_ediv_of_nonneg _ (by decide),hh];omega
  have hw1:zBg .u64 ((i:Int)+j)=(i:Int)+j:=wrapU64 (by omega)
  have hw2:zBg .i64 (((i:Int)+j).fdiv (2 ^ 1))=h:=by rw[hfd];exact zGu (by unfold I64;omega)
  have q:=hg h e (by omega)
  refine k_seq (kQ (zC rfl (zC rfl (zf rfl rfl rfl (zA (k_cT rfl (decide_eq_true (by omega)) (zQ (zL ?_))))))))
  refine kQ (zC rfl (zC rfl ?_))
  refine yO rfl rfl rfl (by unfold I64;omega) (o_conv (k:=.i64) (m:=(i:Int)+j) rfl (by kernel_rfl) (by kernel_rfl) rfl hw1 ?_)
  refine zFS (v:=.int .u64 (((i:Int)+j).fdiv (2 ^ 1))) rfl rfl rfl rfl rfl ?_
  refine o_conv (k:=.u64) (m:=(h:Int)) rfl (by kernel_rfl) (by kernel_rfl) rfl hw2 ?_
  refine zB rfl (zA (kQ (zC rfl (zC rfl ?_))))
  refine zEf rfl rfl q (.lrefl _) (fun u st1 hM=>?_)
  obtain⟨rfl,e',rfl⟩:=hM
  cases hf:f h with
  |true=>
   refine yu rfl rfl (zA (k_cF rfl rfl ?_))
   refine k_region (zC rfl (zB rfl (zA ?_)))
   exact⟨h - i,by omega,i,h,by omega,by omega,h1,(fun k a b=>hmono h k a b hf),⟨e++e',by rw[←List.append_assoc];rfl⟩,.cons rfl (.cons rfl (.cons rfl (.nil rfl)))⟩
  |false=>
   refine yu rfl rfl (zA (k_cT rfl rfl ?_))
   refine k_region (zC rfl ?_)
   refine yO rfl rfl rfl (by unfold I64;omega) (zB rfl (zA ?_))
   exact⟨j - (h+1),by omega,h+1,j,by omega,by omega,(fun k a=>by cases hk2:f k with
    |false=>rfl
    |true=>rw[hmono k h (by omega) (by omega) hk2]at hf;cases hf),h2,⟨e++e',by rw[←List.append_assoc];rfl⟩,.cons rfl (.cons rfl (.cons rfl (.nil rfl)))⟩
 ·refine k_seq ?_
  refine kQ (zC rfl (zC rfl (zf rfl rfl rfl (zA (k_cF rfl (decide_eq_false (by omega)) (yP (kQ (zC rfl ?_))))))))
  refine zB rfl (zA (zU ?_))
  refine⟨.inr rfl,_,.cons _ _ _ _ (.tmp 4) .nil,?_⟩
  exact⟨_,.refl _,⟨i,⟨by omega,h1,fun k a b=>h2 k (by omega) b⟩,rfl⟩,e,rfl⟩
end
section
variable {is:FuncId→Bool}{orc:Known}{b:Bk}
noncomputable def b124:Code:=(Tryd.f124.body).getD .skip
theorem body124:bodyOf Tryd.prog 124=some (8,b124,[.tmp 2]):=by kernel_rfl
theorem pure124:pureFn Tryd.prog 124=false:=by kernel_rfl
noncomputable def b109:Code:=(Tryd.f109.body).getD .skip
theorem body109:bodyOf Tryd.prog 109=some (22,b109,[.cell 6 75]):=by kernel_rfl
theorem pure109:pureFn Tryd.prog 109=true:=by kernel_rfl
def plF(l:List Pl):List U:=l.flatMap Pl.cs
theorem zDz(l:List Pl):yG (plsU l)=plF l:=by
 induction l with
 |nil=>rfl
 |cons q l ih=>show q.cs++yG (plsU l)=_;rw[ih];rfl
theorem zGz(l:List Pl):(plF l).map dg=plF l:=by
 induction l with
 |nil=>rfl
 |cons q l ih=>show q.cs++(plF l).map dg=_;rw[ih];rfl
theorem zEd(l:List Pl):(plF l).length=l.length*3:=by
 induction l with
 |nil=>rfl
 |cons q l ih=>show(plF l).length+1+1+1=_;rw[ih];simp;omega
theorem plF_set(l:List Pl):∀(i:Nat) (q:Pl),i<l.length→(plF l).take (i*3)++q.cs++(plF l).drop (i*3+3)=plF (l.set i q):=by
 induction l with
 |nil=>intro i q h;exact absurd h (Nat.not_lt_zero _)
 |cons x l ih=>
  intro i q h
  cases i with
  |zero=>rfl
  |succ i=>
   have:=ih i q (by simpa using h)
   show(U.int .i64 x.la::U.int .i64 x.lb::U.lst .ro 2 (zu x.cat)::plF l).take ((i+1)*3)++_++(U.int .i64 x.la::U.int .i64 x.lb::U.lst .ro 2 (zu x.cat)::plF l).drop ((i+1)*3+3)=U.int .i64 x.la::U.int .i64 x.lb::U.lst .ro 2 (zu x.cat)::plF (l.set i q)
   rw[←this,show(i+1)*3=i*3+1+1+1 by omega];rfl
theorem plF_one(l:List Pl):(plF l).all oneU=true:=by
 induction l with
 |nil=>rfl
 |cons q l ih=>exact ih
theorem plsU_one(l:List Pl):(yG (plsU l)).all oneU=true:=by rw[zDz];exact plF_one l
theorem plF_at(l:List Pl):∀(i:Nat) (p:Pl),l[i]? =some p→(plF l)[i*3+2]? =some (.lst .ro 2 (zu p.cat)):=by
 induction l with
 |nil=>intro i p h;cases h
 |cons x l ih=>
  intro i p h
  cases i with
  |zero=>cases h;rfl
  |succ i=>
   have:=ih i p h
   show(U.int .i64 x.la::U.int .i64 x.lb::U.lst .ro 2 (zu x.cat)::plF l)[(i+1)*3+2]? =_
   rw[show(i+1)*3+2=i*3+2+1+1+1 by omega];exact this
abbrev bC(b:Bk)(A:U):List U:=[.int .i64 b.parts,.int .i64 b.size,.lst .ro 1 (zG b.beats),.int .i64 b.start,.int .i64 b.fin,.int .i64 b.tlo,.int .i64 b.thi,.int .i64 b.slo,.int .i64 b.shi,.int .i64 b.notice,A]
def zBo(b:Bk)(i:Nat)(lo hg:Int):Bk:=⟨b.parts,b.size,b.beats,b.start,b.fin,b.tlo,b.thi,b.slo,b.shi,b.notice,b.players.set i ⟨lo,hg,(((b.players[i]?).map Pl.cat).getD [])⟩⟩
theorem zDo{i:Nat}{p:Pl}(h:b.players[i]? =some p)(lo hg:Int):zBo b i lo hg=⟨b.parts,b.size,b.beats,b.start,b.fin,b.tlo,b.thi,b.slo,b.shi,b.notice,b.players.set i ⟨lo,hg,p.cat⟩⟩:=by
 unfold zBo;rw[h];rfl
theorem wpc124(hi:Off is){l:List Pl}(hl:1≤l.length∧l.length≤5)(st:List SB):WpC Tryd.prog is orc 124 [.lst .ro 3 (plsU l)] st fun u st'=>u=.sl st.length 0 l.length 3∧st'=st++[.box (plF l)]:=by
 refine zAW body124 pure124 rfl rfl ?_
 have hn : plsU l ≠ [] := fun h => by have : (plsU l).length = 0 := by rw [h]; rfl
                                      simp at this;subst this;simp at hl
 refine kQ (zB rfl (zA (k_seq (kQ (zC rfl ?_)))))
 refine o_eqNilF rfl ty25 rfl hn (fun _=>rfl) ?_
 refine zA (k_cF rfl rfl ?_)
 refine zQ (kQ (wb (es:=[]) rfl ty25 ze68 cl68 rfl rfl rfl rfl rfl rfl rfl rfl ?_))
 refine zC rfl (o_appendB rfl ap25_25 rfl rfl (by simp) (by simp) (plsU_one _) (by rw[zDz,zGz]) (List.length_map _) (by omega) (by omega) ?_)
 refine zB rfl (zA (zU ?_))
 refine⟨.inr rfl,_,.cons _ _ _ _ (.tmp 2) .nil,?_⟩
 exact⟨_,.refl _,rfl,rfl⟩
set_option maxHeartbeats 8000000 in
theorem ret109(hi:Off is)(hb:BOk b){i:Nat}{p:Pl}(hp:b.players[i]? =some p)(late:Int):RetP Tryd.prog is orc 109 [b.u,.int .i64 i,.int .i64 late] (zBo b i 0 late).u:=by
 have hil:=(List.getElem?_eq_some_iff.1 hp).1
 have hpn:=hb.pn
 rw[zDo hp]
 refine zk body109 pure109 (hi 109 (by decide)) rfl rfl (fun u hu=>?_) (.inl (yK _ 4)) ?_
 ·simp only[List.mem_cons,List.not_mem_nil,or_false]at hu
  rcases hu with rfl|rfl|rfl
  ·exact yK b 4
  ·exact .int _ _ _
  ·exact .int _ _ _
 have hlen:=zEd b.players
 refine kQ (zc rfl rfl (zi rfl ze75 ?_))
 refine zA ?_
 refine zH [(1,.int .i64 ↑i),(2,.int .i64 late),(3,U.box 0 0),(6,U.box 1 0)] ([SB.box (Bk.cs b),SB.box [.int .i64 0,.int .i64 0,.lst .full 0 [],.int .i64 0,.int .i64 0,.int .i64 0,.int .i64 0,.int .i64 0,.int .i64 0,.int .i64 0,.lst .full 0 []]]) (.c4 rfl rfl rfl rfl (.nil rfl)) rfl fun fr=>?_
 refine kQ (zE rfl rfl yB (zE rfl rfl yd (zF rfl rfl rfl sh25 rfl ?_)))
 refine zBM rfl (wpc124 hi hpn _) (.lrefl _) (fun u st1 hM=>?_)
 obtain⟨rfl,rfl⟩:=hM
 have hset:(plF b.players).take (0+(i:Int).toNat*3+0)++[U.int .i64 0,.int .i64 late].map dg++(plF b.players).drop (0+(i:Int).toNat*3+0+2)=plF (b.players.set i ⟨0,late,p.cat⟩):=by
  have h:=plF_set b.players i ⟨0,late,p.cat⟩ hil
  rw[Int.toNat_natCast,Nat.zero_add,Nat.add_zero,←h,drop_at (plF_at b.players i p hp)]
  simp[Pl.cs,dg]
 refine zE rfl rfl yB (zE rfl rfl yd (zAP rfl rfl sh25 rfl rfl (zA ?_)))
 refine zH [(1,.int .i64 ↑i),(2,.int .i64 late),(3,U.box 0 0),(6,U.box 1 0)] ([SB.box [.int .i64 (Bk.parts b),.int .i64 (Bk.size b),.lst .ro 1 (zG (Bk.beats b)),.int .i64 (Bk.start b),.int .i64 (Bk.fin b),.int .i64 (Bk.tlo b),.int .i64 (Bk.thi b),.int .i64 (Bk.slo b),.int .i64 (Bk.shi b),.int .i64 (Bk.notice b),U.sl 2 0 (List.length (Bk.players b)) 3],SB.box [.int .i64 0,.int .i64 0,.lst .full 0 [],.int .i64 0,.int .i64 0,.int .i64 0,.int .i64 0,.int .i64 0,.int .i64 0,.int .i64 0,.lst .full 0 []],SB.box (plF (Bk.players b))]) (.c4 rfl rfl rfl rfl (.nil rfl)) rfl fun fr=>?_
 refine kQ (zE rfl rfl yB (zE rfl rfl yd (zF rfl rfl rfl sh25 rfl (zC rfl (zC rfl (yp rfl ze24 pl24 rfl rfl ?_))))))
 refine o_idxS rfl ty25 rfl rfl (Int.natCast_nonneg _) (by omega) cl68 ?_
 refine zE rfl rfl zCw ?_
 refine o_storeNW rfl rfl sh24 rfl rfl rfl (by rw[hlen,Int.toNat_natCast];omega) rfl hset ?_
 refine zA ?_
 refine zH [(3,U.box 0 0),(6,U.box 1 0)] ([SB.box [.int .i64 (Bk.parts b),.int .i64 (Bk.size b),.lst .ro 1 (zG (Bk.beats b)),.int .i64 (Bk.start b),.int .i64 (Bk.fin b),.int .i64 (Bk.tlo b),.int .i64 (Bk.thi b),.int .i64 (Bk.slo b),.int .i64 (Bk.shi b),.int .i64 (Bk.notice b),U.sl 2 0 (List.length (Bk.players b)) 3],SB.box [.int .i64 0,.int .i64 0,.lst .full 0 [],.int .i64 0,.int .i64 0,.int .i64 0,.int .i64 0,.int .i64 0,.int .i64 0,.int .i64 0,.lst .full 0 []],SB.box (plF (List.set (Bk.players b) i {la:=(0:Int),lb:=late,cat:=Pl.cat p}))]) (.cons rfl (.cons rfl (.nil rfl))) rfl fun fr=>?_
 obtain⟨W,hW⟩:∃W,W=b.players.set i ⟨0,late,p.cat⟩:=⟨_,rfl⟩
 have hWl:W.length=b.players.length:=by rw[hW,List.length_set]
 rw[←hW]
 have hfs:yG (plsU W)=(((plF W).map dg).drop 0).take (b.players.length*3):=by
  rw[zGz,zDz,List.drop_zero,List.take_of_length_le (by rw[zEd,hWl];exact Nat.le_refl _)]
 have hez:∀e∈plsU W,(zq e).length=3:=fun e he=>by
  obtain⟨q,_,rfl⟩:=List.mem_map.1 he;rfl
 have hel:(plsU W).length=b.players.length:=by rw[List.length_map,hWl]
 have hle:0+b.players.length*3≤((plF W).map dg).length:=by rw[zGz,zEd,hWl];omega
 refine kQ (o_frz (a:=2) rfl ?_)
 refine zJ rfl rfl rfl sh75 rfl ?_
 refine o_see 21 rfl (fun _=>rfl) (.agg _ _ (.lcons _ _ _ _ (.refl _) (.lcons _ _ _ _ (.refl _) (.lcons _ _ _ _ (.refl _) (.lcons _ _ _ _ (.refl _) (.lcons _ _ _ _ (.refl _) (.lcons _ _ _ _ (.refl _) (.lcons _ _ _ _ (.refl _) (.lcons _ _ _ _ (.refl _) (.lcons _ _ _ _ (.refl _) (.lcons _ _ _ _ (.refl _) (.lcons _ _ _ _ (.sl _ _ _ _ _ _ rfl hfs hez hel hle) (.lrefl _))))))))))))) ?_
 refine zZ rfl rfl sh75 rfl rfl rfl rfl rfl ?_
 refine zA (zU ?_)
 refine⟨.inr rfl,_,.cons _ _ _ _ (.cellN 6 75 _ _ _ _ rfl rfl sh75 rfl) .nil,?_⟩
 exact .refl _
end
end Go.Proofs.YtfbmlibilcjlgaaDoor.drumBounds
