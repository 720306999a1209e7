import Derived.Test.YtfbmlibilcjlgaaDoorVamT14
set_option linter.unusedVariables false
set_option linter.unusedSimpArgs false
set_option linter.constructorNameAsVariable false
namespace Go.Proofs.YtfbmlibilcjlgaaDoor.drumBound
open Vam
section
variable {is:FuncId→Bool}{orc:Known}{b:Bk}
noncomputable def rg110:Code×Code:=match b110 with
 | .seq _ (.seq (.seq _ (.block _ (.rangeFunc _ _ a b))) _)=>(a,b)
 |_=>(.skip,.skip)
noncomputable def lp110:Lp:=⟨fun i=>dg (zBX [(2,.box 1 0),(4,.fn 121 [] [.box 4 0,.box 5 0])] i .junk),[5],rg110.1,rg110.2⟩
abbrev Z110(b:Bk)(z:Bool):List SB:=[.box [.int .i64 b.parts,.int .i64 b.size,.lst .ro 1 (zF b.beats),.int .i64 b.start,.int .i64 b.fin,.int .i64 b.tlo,.int .i64 b.thi,.int .i64 b.slo,.int .i64 b.shi,.int .i64 b.notice,.lst .ro 3 (plsU b.players)],.box [.bool z]]++plC b 2
theorem bd_Z110(b:Bk)(z:Bool):∀x∈Z110 b z,BdS 6 x:=fun x hx=>by
 rcases List.mem_append.1 hx with hx|hx
 ·simp only[List.mem_cons,List.not_mem_nil,or_false]at hx
  rcases hx with rfl|rfl
  ·exact bd_bk b _
  ·intro c hc;rcases List.mem_singleton.1 hc with rfl;exact Bd.bool _ _
 ·exact bd_plC b 2 x hx
theorem cns110(b:Bk):Cns 7 6 lp110 (fun _=>true) (fun _=>Z110 b false++[.loop .ready lp110]) (Z110 b true++[.loop (.done .ret) lp110]) (POk b):=by
 have hlp:∀i,Bd 7 (lp110.fr i):=by
  refine zFs (p:=fun u=>Bd 7 (dg u)) ?_ (Bd.junk _)
  intro x hx
  simp only[List.mem_cons,List.not_mem_nil,or_false]at hx
  rcases hx with rfl|rfl
  ·exact Bd.box (by omega)
  ·refine Bd.fn (fun u hu=>by cases hu) fun u hu=>?_
   simp only[List.mem_cons,List.not_mem_nil,or_false]at hu
   rcases hu with rfl|rfl<;>exact Bd.box (by omega)
 have bd1:∀z q,∀x∈Z110 b z++[.loop q lp110],BdS 7 x:=fun z q x hx=>by
  rcases List.mem_append.1 hx with hx|hx
  ·exact BdS.mono (bd_Z110 b z x hx) (by omega)
  ·rcases List.mem_singleton.1 hx with rfl;exact hlp
 refine⟨fun l=>rfl,rfl,fun l=>bd1 _ _,bd1 _ _,fun l=>rfl,fun i=>zBR _,⟨5,rfl,rfl⟩,fun is orc hi l q e hq=>?_⟩
 show Wp _ _ _ rg110.1 _ _
 refine zW ⟨rfl,rfl,?_⟩
 show Wp _ _ _ rg110.2 _ _
 refine zN [(2,.box 1 0)] ((Z110 b false++[.loop .busy lp110])++e) (.cons rfl (.nil rfl)) rfl fun fr=>?_
 refine zV (kQ (wz rfl rfl sh4 rfl rfl (zA (za ?_))))
 refine⟨rfl,.inr ⟨rfl,rfl,[],?_⟩⟩
 rw[List.append_nil];rfl
theorem any_true(l:List (List Int)):l.any (fun _=>true)=decide (l≠[]):=by cases l<;>simp
set_option maxHeartbeats 8000000 in
theorem ret110(hi:Off is)(hb:BOk b):RetP Tryd.prog is orc 110 [b.u] (.bool (decide (wG b≠[]))):=by
 refine yS body110 pure110 (hi 110 (by decide)) rfl rfl (zAh (yq b 4)) (.inl (.bool _ _)) ?_
 refine kQ (yB rfl rfl (zt rfl ze4 ?_))
 refine zA ?_
 refine zN [(1,U.box 0 0),(2,U.box 1 0)] ([SB.box [.int .i64 (Bk.parts b),.int .i64 (Bk.size b),.lst .ro 1 (zF (Bk.beats b)),.int .i64 (Bk.start b),.int .i64 (Bk.fin b),.int .i64 (Bk.tlo b),.int .i64 (Bk.thi b),.int .i64 (Bk.slo b),.int .i64 (Bk.shi b),.int .i64 (Bk.notice b),.lst .ro 3 (plsU (Bk.players b))],SB.box [.bool false]]) (.cons rfl (.cons rfl (.nil rfl))) rfl fun fr=>?_
 refine k_seq (kQ (zM rfl rfl rfl sh75 rfl ?_))
 refine zCh rfl (wpc76 b _) (.lrefl _) (fun u st1 hM=>?_)
 obtain⟨rfl,rfl⟩:=hM
 refine zA (zV (zFK [(2,.box 1 0),(4,.fn 121 [] [.box 4 0,.box 5 0])] (Z110 b false) (.cons rfl (.cons rfl (.nil rfl))) rfl ?_))
 rw[←any_true]
 refine k_rangeG (n:=6) (stop:=fun _=>true) (Z:=fun _=>Z110 b false) (DZ:=Z110 b true) (ex:=.ret) hi (genPlans hb 2) rfl (cns110 b) (fun l=>rfl) rfl (fun c hc l=>plK_at (st:=[.box [.int .i64 b.parts,.int .i64 b.size,.lst .ro 1 (zF b.beats),.int .i64 b.start,.int .i64 b.fin,.int .i64 b.tlo,.int .i64 b.thi,.int .i64 b.slo,.int .i64 b.shi,.int .i64 b.notice,.lst .ro 3 (plsU b.players)],.box [.bool false]]) c hc []) (fun _=>bd_Z110 b false) (bd_Z110 b true) rfl rfl (fun h=>?_) (fun h=>?_)
 ·rw[h]
  refine zN [(2,.box 1 0)] (Z110 b false) (.cons rfl (.nil rfl)) rfl fun fr=>?_
  refine kQ (wz rfl rfl sh4 rfl rfl (zA (za ?_)))
  refine⟨.inr rfl,_,.cons _ _ _ _ (.cell1 2 4 _ _ _ _ rfl rfl sh4 rfl) .nil,?_⟩
  exact .refl _
 ·rw[h]
  exact⟨.inr rfl,_,.cons _ _ _ _ (.cell1 2 4 1 0 [.bool true] (.bool true) rfl rfl sh4 rfl) .nil,.refl _⟩
end
section
variable {is:FuncId→Bool}{orc:Known}{b:Bk}
noncomputable def b107:Code:=(Tryd.f107.body).getD .skip
theorem body107:bodyOf Tryd.prog 107=some (26,b107,[.tmp 4]):=by kernel_rfl
theorem pure107:pureFn Tryd.prog 107=false:=by kernel_rfl
structure Least(f:Nat→Bool)(n i:Nat):Prop where
 le:i≤n
 lo:∀j,j<i→f j=false
 hi:∀j,i≤j→j<n→f j=true
set_option maxHeartbeats 8000000 in
theorem wpc107(hi:Off is){g:Nat}{B:List U}{f:Nat→Bool}{n:Nat}(hn:n≤100000)(hmono:∀i j,i≤j→j<n→f i=true→f j=true){st:List SB}(hg:∀(i:Nat) e,i<n→WpC Tryd.prog is orc g ([.int .i64 i]++B) (st++e) fun u st'=>u=.bool (f i)∧∃e',st'=(st++e)++e'):
  WpC Tryd.prog is orc 107 [.int .i64 n,.fn g [] B] st fun u st'=>(∃i,Least f n i∧u=.int .i64 i)∧∃e,st'=st++e:=by
 refine zCI body107 pure107 rfl rfl ?_
 refine kQ (zB rfl (zA (kQ (zC rfl (zB rfl (zB rfl (zA (k_seq ?_))))))))
 refine zV ?_
 refine zAB (fun kk s2=>∃(i j:Nat),kk+i=j∧j≤n∧(∀k,k<i→f k=false)∧(∀k,j≤k→k<n→f k=true)∧(∃e,s2.st=st++e)∧Holds s2 [(1,.fn g [] B),(5,.int .i64 i),(6,.int .i64 j)]) (fun kk s2 hI=>?_) n _ ⟨0,n,rfl,Nat.le_refl _,(fun k h=>by omega),(fun k h h2=>by omega),⟨[],(by show st=st++[];rw[List.append_nil])⟩,.cons rfl (.cons rfl (.cons rfl (.nil rfl)))⟩
 obtain⟨i,j,hk,hjn,h1,h2,⟨e,hst2⟩,hs2⟩:=hI
 refine zN _ _ hs2 hst2 fun fr2=>?_
 by_cases hij:i<j
 ·obtain⟨h,hh⟩:∃h,h=(i+j) / 2:=⟨_,rfl⟩
  have hfd:((i:Int)+j).fdiv (2 ^ 1)=h:=by
   rw[Int.fdiv_eq_ediv_of_nonneg _ (by decide),hh];omega
  have hw1:zCX .u64 ((i:Int)+j)=(i:Int)+j:=wrapU64 (by omega)
  have hw2:zCX .i64 (((i:Int)+j).fdiv (2 ^ 1))=h:=by rw[hfd];exact wrap64 (by unfold I64;omega)
  have q:=hg h e (by omega)
  refine k_seq (kQ (zC rfl (zC rfl (yY rfl rfl rfl (zA (k_cT rfl (decide_eq_true (by omega)) (zW (zV ?_))))))))
  refine kQ (zC rfl (zC rfl ?_))
  refine we rfl rfl rfl (by unfold I64;omega) (o_conv (k:=.i64) (m:=(i:Int)+j) rfl (by kernel_rfl) (by kernel_rfl) rfl hw1 ?_)
  refine zFn (v:=.int .u64 (((i:Int)+j).fdiv (2 ^ 1))) rfl rfl rfl rfl rfl ?_
  refine o_conv (k:=.u64) (m:=(h:Int)) rfl (by kernel_rfl) (by kernel_rfl) rfl hw2 ?_
  refine zB rfl (zA (kQ (zC rfl (zC rfl ?_))))
  refine o_callV rfl rfl q (.lrefl _) (fun u st1 hM=>?_)
  obtain⟨rfl,e',rfl⟩:=hM
  cases hf:f h with
  |true=>
   refine wJ rfl rfl (zA (k_cF rfl rfl ?_))
   refine k_region (zC rfl (zB rfl (zA ?_)))
   exact⟨h - i,by omega,i,h,by omega,by omega,h1,(fun k a b=>hmono h k a b hf),⟨e++e',by rw[←List.append_assoc];rfl⟩,.cons rfl (.cons rfl (.cons rfl (.nil rfl)))⟩
  |false=>
   refine wJ rfl rfl (zA (k_cT rfl rfl ?_))
   refine k_region (zC rfl ?_)
   refine we rfl rfl rfl (by unfold I64;omega) (zB rfl (zA ?_))
   exact⟨j - (h+1),by omega,h+1,j,by omega,by omega,(fun k a=>by cases hk2:f k with
    |false=>rfl
    |true=>rw[hmono k h (by omega) (by omega) hk2]at hf;cases hf),h2,⟨e++e',by rw[←List.append_assoc];rfl⟩,.cons rfl (.cons rfl (.cons rfl (.nil rfl)))⟩
 ·refine k_seq ?_
  refine kQ (zC rfl (zC rfl (yY rfl rfl rfl (zA (k_cF rfl (decide_eq_false (by omega)) (wa (kQ (zC rfl ?_))))))))
  refine zB rfl (zA (za ?_))
  refine⟨.inr rfl,_,.cons _ _ _ _ (.tmp 4) .nil,?_⟩
  exact⟨_,.refl _,⟨i,⟨by omega,h1,fun k a b=>h2 k (by omega) b⟩,rfl⟩,e,rfl⟩
end
section
variable {is:FuncId→Bool}{orc:Known}{b:Bk}
noncomputable def b51:Code:=(Tryd.f51.body).getD .skip
theorem body51:bodyOf Tryd.prog 51=some (27,b51,[.cell 6 27]):=by kernel_rfl
theorem pure51:pureFn Tryd.prog 51=false:=by kernel_rfl
noncomputable def b124:Code:=(Tryd.f124.body).getD .skip
theorem body124:bodyOf Tryd.prog 124=some (8,b124,[.tmp 2]):=by kernel_rfl
theorem pure124:pureFn Tryd.prog 124=false:=by kernel_rfl
noncomputable def b109:Code:=(Tryd.f109.body).getD .skip
theorem body109:bodyOf Tryd.prog 109=some (22,b109,[.cell 6 75]):=by kernel_rfl
theorem pure109:pureFn Tryd.prog 109=true:=by kernel_rfl
def plF(l:List Pl):List U:=l.flatMap Pl.cs
theorem zDh(l:List Pl):yM (plsU l)=plF l:=by
 induction l with
 |nil=>rfl
 |cons q l ih=>show q.cs++yM (plsU l)=_;rw[ih];rfl
theorem zGZ(l:List Pl):(plF l).map dg=plF l:=by
 induction l with
 |nil=>rfl
 |cons q l ih=>show q.cs++(plF l).map dg=_;rw[ih];rfl
theorem zEJ(l:List Pl):(plF l).length=l.length*3:=by
 induction l with
 |nil=>rfl
 |cons q l ih=>show(plF l).length+1+1+1=_;rw[ih];simp;omega
theorem plF_set(l:List Pl):∀(i:Nat) (q:Pl),i<l.length→(plF l).take (i*3)++q.cs++(plF l).drop (i*3+3)=plF (l.set i q):=by
 induction l with
 |nil=>intro i q h;exact absurd h (Nat.not_lt_zero _)
 |cons x l ih=>
  intro i q h
  cases i with
  |zero=>rfl
  |succ i=>
   have:=ih i q (by simpa using h)
   show(U.int .i64 x.la::U.int .i64 x.lb::U.lst .ro 2 (yR x.cat)::plF l).take ((i+1)*3)++_++(U.int .i64 x.la::U.int .i64 x.lb::U.lst .ro 2 (yR x.cat)::plF l).drop ((i+1)*3+3)=U.int .i64 x.la::U.int .i64 x.lb::U.lst .ro 2 (yR x.cat)::plF (l.set i q)
   rw[←this,show(i+1)*3=i*3+1+1+1 by omega];rfl
theorem plF_one(l:List Pl):(plF l).all oneU=true:=by
 induction l with
 |nil=>rfl
 |cons q l ih=>exact ih
theorem plsU_one(l:List Pl):(yM (plsU l)).all oneU=true:=by rw[zDh];exact plF_one l
theorem plF_at(l:List Pl):∀(i:Nat) (p:Pl),l[i]? =some p→(plF l)[i*3+2]? =some (.lst .ro 2 (yR p.cat)):=by
 induction l with
 |nil=>intro i p h;cases h
 |cons x l ih=>
  intro i p h
  cases i with
  |zero=>cases h;rfl
  |succ i=>
   have:=ih i p h
   show(U.int .i64 x.la::U.int .i64 x.lb::U.lst .ro 2 (yR x.cat)::plF l)[(i+1)*3+2]? =_
   rw[show(i+1)*3+2=i*3+2+1+1+1 by omega];exact this
def wg(b:Bk)(i:Nat)(lo hg:Int):Bk:=⟨b.parts,b.size,b.beats,b.start,b.fin,b.tlo,b.thi,b.slo,b.shi,b.notice,b.players.set i ⟨lo,hg,(((b.players[i]?).map Pl.cat).getD [])⟩⟩
theorem zDY{i:Nat}{p:Pl}(h:b.players[i]? =some p)(lo hg:Int):wg b i lo hg=⟨b.parts,b.size,b.beats,b.start,b.fin,b.tlo,b.thi,b.slo,b.shi,b.notice,b.players.set i ⟨lo,hg,p.cat⟩⟩:=by
 unfold wg;rw[h];rfl
set_option maxHeartbeats 8000000 in
theorem wpc51(hi:Off is)(hb:BOk b){i:Nat}{p:Pl}(hp:b.players[i]? =some p)(lo hg:Int):WpC Tryd.prog is orc 51 [b.u,.int .i64 i,wp lo hg] [.box [.int .i64 b.parts,.int .i64 b.size,.lst .ro 1 (zF b.beats),.int .i64 b.start,.int .i64 b.fin,.int .i64 b.tlo,.int .i64 b.thi,.int .i64 b.slo,.int .i64 b.shi,.int .i64 b.notice,.lst .ro 3 (plsU b.players)]] fun u st'=>u=(wg b i lo hg).u∧st'=[.box [.int .i64 b.parts,.int .i64 b.size,.lst .ro 1 (zF b.beats),.int .i64 b.start,.int .i64 b.fin,.int .i64 b.tlo,.int .i64 b.thi,.int .i64 b.slo,.int .i64 b.shi,.int .i64 b.notice,.lst .ro 3 (plsU b.players)]]:=by
 have hil:=(List.getElem?_eq_some_iff.1 hp).1
 have hpn:=hb.pn
 rw[zDY hp]
 have hset:(plF b.players).take (0+(i:Int).toNat*3)++[U.int .i64 lo,.int .i64 hg,.lst .ro 2 (yR p.cat)].map dg++(plF b.players).drop (0+(i:Int).toNat*3+3)=plF (b.players.set i ⟨lo,hg,p.cat⟩):=by
  rw[Int.toNat_natCast,Nat.zero_add];exact plF_set b.players i ⟨lo,hg,p.cat⟩ hil
 have hlen:=zEJ b.players
 refine wpc_cut body51 pure51 rfl rfl ?_
 refine kQ (yB rfl rfl (yB rfl rfl (zt rfl ze27 ?_)))
 refine zA ?_
 refine zN [(1,.int .i64 ↑i),(3,U.box 1 0),(5,U.box 2 0),(6,U.box 3 0)] ([SB.box [.int .i64 (Bk.parts b),.int .i64 (Bk.size b),.lst .ro 1 (zF (Bk.beats b)),.int .i64 (Bk.start b),.int .i64 (Bk.fin b),.int .i64 (Bk.tlo b),.int .i64 (Bk.thi b),.int .i64 (Bk.slo b),.int .i64 (Bk.shi b),.int .i64 (Bk.notice b),.lst .ro 3 (plsU (Bk.players b))],SB.box [.int .i64 (Bk.parts b),.int .i64 (Bk.size b),.lst .ro 1 (zF (Bk.beats b)),.int .i64 (Bk.start b),.int .i64 (Bk.fin b),.int .i64 (Bk.tlo b),.int .i64 (Bk.thi b),.int .i64 (Bk.slo b),.int .i64 (Bk.shi b),.int .i64 (Bk.notice b),.lst .ro 3 (plsU (Bk.players b))],SB.box [.int .i64 lo,.int .i64 hg],SB.box [.int .i64 0,.int .i64 0,.lst .full 0 [],.int .i64 0,.int .i64 0,.int .i64 0,.int .i64 0,.int .i64 0,.int .i64 0,.int .i64 0,.lst .full 0 []]]) (.c4 rfl rfl rfl rfl (.nil rfl)) rfl fun fr=>?_
 refine kQ (zM rfl rfl rfl sh27 rfl (zt rfl ze27 ?_))
 refine zj rfl rfl sh27 rfl rfl rfl rfl rfl ?_
 refine zA ?_
 refine zN [(1,.int .i64 ↑i),(3,U.box 1 0),(5,U.box 2 0),(6,U.box 3 0),(7,U.box 4 0)] ([SB.box [.int .i64 (Bk.parts b),.int .i64 (Bk.size b),.lst .ro 1 (zF (Bk.beats b)),.int .i64 (Bk.start b),.int .i64 (Bk.fin b),.int .i64 (Bk.tlo b),.int .i64 (Bk.thi b),.int .i64 (Bk.slo b),.int .i64 (Bk.shi b),.int .i64 (Bk.notice b),.lst .ro 3 (plsU (Bk.players b))],SB.box [.int .i64 (Bk.parts b),.int .i64 (Bk.size b),.lst .ro 1 (zF (Bk.beats b)),.int .i64 (Bk.start b),.int .i64 (Bk.fin b),.int .i64 (Bk.tlo b),.int .i64 (Bk.thi b),.int .i64 (Bk.slo b),.int .i64 (Bk.shi b),.int .i64 (Bk.notice b),.lst .ro 3 (plsU (Bk.players b))],SB.box [.int .i64 lo,.int .i64 hg],SB.box [.int .i64 0,.int .i64 0,.lst .full 0 [],.int .i64 0,.int .i64 0,.int .i64 0,.int .i64 0,.int .i64 0,.int .i64 0,.int .i64 0,.lst .full 0 []],SB.box [.int .i64 (Bk.parts b),.int .i64 (Bk.size b),.lst .ro 1 (zF (Bk.beats b)),.int .i64 (Bk.start b),.int .i64 (Bk.fin b),.int .i64 (Bk.tlo b),.int .i64 (Bk.thi b),.int .i64 (Bk.slo b),.int .i64 (Bk.shi b),.int .i64 (Bk.notice b),.lst .ro 3 (plsU (Bk.players b))]]) (.c4 rfl rfl rfl rfl (.cons rfl (.nil rfl))) rfl fun fr=>?_
 refine kQ (zDj (es:=[]) rfl ty25 ze68 cl68 rfl rfl rfl rfl rfl rfl rfl rfl ?_)
 refine zE rfl rfl yZ (zG rfl rfl rfl sh25 rfl (o_appendB rfl ap25_25 rfl rfl (by simp) (by simp) (plsU_one _) (by rw[zDh,zGZ]) (List.length_map _) (by omega) (by omega) ?_))
 refine zE rfl rfl yZ (wz rfl rfl sh25 rfl rfl (zA ?_))
 refine zN [(1,.int .i64 ↑i),(3,U.box 1 0),(5,U.box 2 0),(6,U.box 3 0),(7,U.box 4 0)] ([SB.box [.int .i64 (Bk.parts b),.int .i64 (Bk.size b),.lst .ro 1 (zF (Bk.beats b)),.int .i64 (Bk.start b),.int .i64 (Bk.fin b),.int .i64 (Bk.tlo b),.int .i64 (Bk.thi b),.int .i64 (Bk.slo b),.int .i64 (Bk.shi b),.int .i64 (Bk.notice b),.lst .ro 3 (plsU (Bk.players b))],SB.box [.int .i64 (Bk.parts b),.int .i64 (Bk.size b),.lst .ro 1 (zF (Bk.beats b)),.int .i64 (Bk.start b),.int .i64 (Bk.fin b),.int .i64 (Bk.tlo b),.int .i64 (Bk.thi b),.int .i64 (Bk.slo b),.int .i64 (Bk.shi b),.int .i64 (Bk.notice b),.lst .ro 3 (plsU (Bk.players b))],SB.box [.int .i64 lo,.int .i64 hg],SB.box [.int .i64 0,.int .i64 0,.lst .full 0 [],.int .i64 0,.int .i64 0,.int .i64 0,.int .i64 0,.int .i64 0,.int .i64 0,.int .i64 0,.lst .full 0 []],SB.box [.int .i64 (Bk.parts b),.int .i64 (Bk.size b),.lst .ro 1 (zF (Bk.beats b)),.int .i64 (Bk.start b),.int .i64 (Bk.fin b),.int .i64 (Bk.tlo b),.int .i64 (Bk.thi b),.int .i64 (Bk.slo b),.int .i64 (Bk.shi b),.int .i64 (Bk.notice b),U.sl 5 0 (List.length (Bk.players b)) 3],SB.box (plF (Bk.players b))]) (.c4 rfl rfl rfl rfl (.cons rfl (.nil rfl))) rfl fun fr=>?_
 refine k_seq (wL [.plain,.read true,.plain,.read true,.plain,.read true,.plain,.plain,.plain,.read true,.plain,.plain,.plain] (by kernel_rfl) (by kernel_rfl) (by kernel_rfl) ?_)
 refine zD (zE rfl rfl yZ (zA rfl)) ?_
 refine yI rfl (zG rfl rfl rfl sh25 rfl (zA rfl)) (zD (zC rfl (zA rfl)) (yI rfl (zM rfl rfl rfl sh24 rfl (zA rfl)) ?_))
 refine zD (zE rfl rfl yZ (zA rfl)) ?_
 refine yI rfl (zG rfl rfl rfl sh25 rfl (zA rfl)) (zD (zC rfl (zA rfl)) (zD (zAa (u:=(p).u) rfl ty25 rfl rfl (Int.natCast_nonneg _) (by simp[hp]) cl68 (zA rfl)) ?_))
 refine zD (zBw rfl rfl zBz (zA rfl)) ?_
 refine zCl [(6,U.box 3 0),(7,U.box 4 0),(15,U.sl 5 0 (List.length (Bk.players b)) 3),(16,.int .i64 ↑i),(17,U.agg [.int .i64 lo,.int .i64 hg]),(22,U.eref [.int .i64 (Pl.la p),.int .i64 (Pl.lb p),.lst .ro 2 (yR (Pl.cat p))] 2)] [] ([SB.box [.int .i64 (Bk.parts b),.int .i64 (Bk.size b),.lst .ro 1 (zF (Bk.beats b)),.int .i64 (Bk.start b),.int .i64 (Bk.fin b),.int .i64 (Bk.tlo b),.int .i64 (Bk.thi b),.int .i64 (Bk.slo b),.int .i64 (Bk.shi b),.int .i64 (Bk.notice b),.lst .ro 3 (plsU (Bk.players b))],SB.box [.int .i64 (Bk.parts b),.int .i64 (Bk.size b),.lst .ro 1 (zF (Bk.beats b)),.int .i64 (Bk.start b),.int .i64 (Bk.fin b),.int .i64 (Bk.tlo b),.int .i64 (Bk.thi b),.int .i64 (Bk.slo b),.int .i64 (Bk.shi b),.int .i64 (Bk.notice b),.lst .ro 3 (plsU (Bk.players b))],SB.box [.int .i64 lo,.int .i64 hg],SB.box [.int .i64 0,.int .i64 0,.lst .full 0 [],.int .i64 0,.int .i64 0,.int .i64 0,.int .i64 0,.int .i64 0,.int .i64 0,.int .i64 0,.lst .full 0 []],SB.box [.int .i64 (Bk.parts b),.int .i64 (Bk.size b),.lst .ro 1 (zF (Bk.beats b)),.int .i64 (Bk.start b),.int .i64 (Bk.fin b),.int .i64 (Bk.tlo b),.int .i64 (Bk.thi b),.int .i64 (Bk.slo b),.int .i64 (Bk.shi b),.int .i64 (Bk.notice b),U.sl 5 0 (List.length (Bk.players b)) 3],SB.box (plF (Bk.players b))]) (.c4 rfl rfl rfl rfl (.cons rfl (.cons rfl (.nil rfl)))) rfl rfl fun fr=>?_
 refine yI rfl (yk rfl rfl sh66 rfl (zA rfl)) ?_
 refine zD (zAN rfl ze68 pl68 rfl rfl (zA rfl)) ?_
 refine zD (o_idxS rfl ty25 rfl rfl (Int.natCast_nonneg _) (by omega) cl68 (zA rfl)) ?_
 refine zD (o_storeNW rfl rfl sh68 rfl rfl rfl (by rw[hlen];omega) rfl hset (zA rfl)) ?_
 refine zAu ?_
 refine zN [(6,U.box 3 0),(7,U.box 4 0)] ([SB.box [.int .i64 (Bk.parts b),.int .i64 (Bk.size b),.lst .ro 1 (zF (Bk.beats b)),.int .i64 (Bk.start b),.int .i64 (Bk.fin b),.int .i64 (Bk.tlo b),.int .i64 (Bk.thi b),.int .i64 (Bk.slo b),.int .i64 (Bk.shi b),.int .i64 (Bk.notice b),.lst .ro 3 (plsU (Bk.players b))],SB.box [.int .i64 (Bk.parts b),.int .i64 (Bk.size b),.lst .ro 1 (zF (Bk.beats b)),.int .i64 (Bk.start b),.int .i64 (Bk.fin b),.int .i64 (Bk.tlo b),.int .i64 (Bk.thi b),.int .i64 (Bk.slo b),.int .i64 (Bk.shi b),.int .i64 (Bk.notice b),.lst .ro 3 (plsU (Bk.players b))],SB.box [.int .i64 lo,.int .i64 hg],SB.box [.int .i64 0,.int .i64 0,.lst .full 0 [],.int .i64 0,.int .i64 0,.int .i64 0,.int .i64 0,.int .i64 0,.int .i64 0,.int .i64 0,.lst .full 0 []],SB.box [.int .i64 (Bk.parts b),.int .i64 (Bk.size b),.lst .ro 1 (zF (Bk.beats b)),.int .i64 (Bk.start b),.int .i64 (Bk.fin b),.int .i64 (Bk.tlo b),.int .i64 (Bk.thi b),.int .i64 (Bk.slo b),.int .i64 (Bk.shi b),.int .i64 (Bk.notice b),U.sl 5 0 (List.length (Bk.players b)) 3],SB.box (plF (List.set (Bk.players b) i {la:=lo,lb:=hg,cat:=Pl.cat p}))]) (.cons rfl (.cons rfl (.nil rfl))) rfl fun fr=>?_
 obtain⟨W,hW⟩:∃W,W=b.players.set i ⟨lo,hg,p.cat⟩:=⟨_,rfl⟩
 have hWl:W.length=b.players.length:=by rw[hW,List.length_set]
 rw[←hW]
 have hfs:yM (plsU W)=(((plF W).map dg).drop 0).take (b.players.length*3):=by
  rw[zGZ,zDh,List.drop_zero,List.take_of_length_le (by rw[zEJ,hWl];exact Nat.le_refl _)]
 have hez:∀e∈plsU W,(zz e).length=3:=fun e he=>by
  obtain⟨q,_,rfl⟩:=List.mem_map.1 he;rfl
 have hel:(plsU W).length=b.players.length:=by rw[List.length_map,hWl]
 have hle:0+b.players.length*3≤((plF W).map dg).length:=by rw[zGZ,zEJ,hWl];omega
 refine kQ (o_frz (a:=5) rfl ?_)
 refine zM rfl rfl rfl sh27 rfl ?_
 refine o_see 26 rfl (fun _=>rfl) (.agg _ _ (.lcons _ _ _ _ (.refl _) (.lcons _ _ _ _ (.refl _) (.lcons _ _ _ _ (.refl _) (.lcons _ _ _ _ (.refl _) (.lcons _ _ _ _ (.refl _) (.lcons _ _ _ _ (.refl _) (.lcons _ _ _ _ (.refl _) (.lcons _ _ _ _ (.refl _) (.lcons _ _ _ _ (.refl _) (.lcons _ _ _ _ (.refl _) (.lcons _ _ _ _ (.sl _ _ _ _ _ _ rfl hfs hez hel hle) (.lrefl _))))))))))))) ?_
 refine zj rfl rfl sh27 rfl rfl rfl rfl rfl ?_
 refine zA (za ?_)
 refine⟨.inr rfl,_,.cons _ _ _ _ (.cellN 6 27 _ _ _ _ rfl rfl sh27 rfl) .nil,?_⟩
 refine⟨(⟨b.parts,b.size,b.beats,b.start,b.fin,b.tlo,b.thi,b.slo,b.shi,b.notice,W⟩:Bk).u,.refl _,((nbo_bk _).1).bd _,Nat.le_add_left 1 _,fun x hx=>?_,rfl,rfl⟩
 rcases List.mem_singleton.1 hx with rfl;exact bd_bk b _
theorem wpc124(hi:Off is){l:List Pl}(hl:1≤l.length∧l.length≤5)(st:List SB):WpC Tryd.prog is orc 124 [.lst .ro 3 (plsU l)] st fun u st'=>u=.sl st.length 0 l.length 3∧st'=st++[.box (plF l)]:=by
 refine zCI body124 pure124 rfl rfl ?_
 have hn : plsU l ≠ [] := fun h => by have : (plsU l).length = 0 := by rw [h]; rfl
                                      simp at this;subst this;simp at hl
 refine kQ (zB rfl (zA (k_seq (kQ (zC rfl ?_)))))
 refine o_eqNilF rfl ty25 rfl hn (fun _=>rfl) ?_
 refine zA (k_cF rfl rfl ?_)
 refine zW (kQ (zDj (es:=[]) rfl ty25 ze68 cl68 rfl rfl rfl rfl rfl rfl rfl rfl ?_))
 refine zC rfl (o_appendB rfl ap25_25 rfl rfl (by simp) (by simp) (plsU_one _) (by rw[zDh,zGZ]) (List.length_map _) (by omega) (by omega) ?_)
 refine zB rfl (zA (za ?_))
 refine⟨.inr rfl,_,.cons _ _ _ _ (.tmp 2) .nil,?_⟩
 exact⟨_,.refl _,rfl,rfl⟩
set_option maxHeartbeats 8000000 in
theorem ret109(hi:Off is)(hb:BOk b){i:Nat}{p:Pl}(hp:b.players[i]? =some p)(late:Int):RetP Tryd.prog is orc 109 [b.u,.int .i64 i,.int .i64 late] (wg b i 0 late).u:=by
 have hil:=(List.getElem?_eq_some_iff.1 hp).1
 have hpn:=hb.pn
 rw[zDY hp]
 refine yS body109 pure109 (hi 109 (by decide)) rfl rfl (fun u hu=>?_) (.inl (yq _ 4)) ?_
 ·simp only[List.mem_cons,List.not_mem_nil,or_false]at hu
  rcases hu with rfl|rfl|rfl
  ·exact yq b 4
  ·exact .int _ _ _
  ·exact .int _ _ _
 have hlen:=zEJ b.players
 refine kQ (yB rfl rfl (zt rfl ze75 ?_))
 refine zA ?_
 refine zN [(1,.int .i64 ↑i),(2,.int .i64 late),(3,U.box 0 0),(6,U.box 1 0)] ([SB.box [.int .i64 (Bk.parts b),.int .i64 (Bk.size b),.lst .ro 1 (zF (Bk.beats b)),.int .i64 (Bk.start b),.int .i64 (Bk.fin b),.int .i64 (Bk.tlo b),.int .i64 (Bk.thi b),.int .i64 (Bk.slo b),.int .i64 (Bk.shi b),.int .i64 (Bk.notice b),.lst .ro 3 (plsU (Bk.players b))],SB.box [.int .i64 0,.int .i64 0,.lst .full 0 [],.int .i64 0,.int .i64 0,.int .i64 0,.int .i64 0,.int .i64 0,.int .i64 0,.int .i64 0,.lst .full 0 []]]) (.c4 rfl rfl rfl rfl (.nil rfl)) rfl fun fr=>?_
 refine kQ (zE rfl rfl yQ (zE rfl rfl yZ (zG rfl rfl rfl sh25 rfl ?_)))
 refine zCh rfl (wpc124 hi hpn _) (.lrefl _) (fun u st1 hM=>?_)
 obtain⟨rfl,rfl⟩:=hM
 have hset:(plF b.players).take (0+(i:Int).toNat*3+0)++[U.int .i64 0,.int .i64 late].map dg++(plF b.players).drop (0+(i:Int).toNat*3+0+2)=plF (b.players.set i ⟨0,late,p.cat⟩):=by
  have h:=plF_set b.players i ⟨0,late,p.cat⟩ hil
  rw[Int.toNat_natCast,Nat.zero_add,Nat.add_zero,←h,drop_at (plF_at b.players i p hp)]
  simp[Pl.cs,dg]
 refine zE rfl rfl yQ (zE rfl rfl yZ (wz rfl rfl sh25 rfl rfl (zA ?_)))
 refine zN [(1,.int .i64 ↑i),(2,.int .i64 late),(3,U.box 0 0),(6,U.box 1 0)] ([SB.box [.int .i64 (Bk.parts b),.int .i64 (Bk.size b),.lst .ro 1 (zF (Bk.beats b)),.int .i64 (Bk.start b),.int .i64 (Bk.fin b),.int .i64 (Bk.tlo b),.int .i64 (Bk.thi b),.int .i64 (Bk.slo b),.int .i64 (Bk.shi b),.int .i64 (Bk.notice b),U.sl 2 0 (List.length (Bk.players b)) 3],SB.box [.int .i64 0,.int .i64 0,.lst .full 0 [],.int .i64 0,.int .i64 0,.int .i64 0,.int .i64 0,.int .i64 0,.int .i64 0,.int .i64 0,.lst .full 0 []],SB.box (plF (Bk.players b))]) (.c4 rfl rfl rfl rfl (.nil rfl)) rfl fun fr=>?_
 refine kQ (zE rfl rfl yQ (zE rfl rfl yZ (zG rfl rfl rfl sh25 rfl (zC rfl (zC rfl (zAN rfl ze24 pl24 rfl rfl ?_))))))
 refine o_idxS rfl ty25 rfl rfl (Int.natCast_nonneg _) (by omega) cl68 ?_
 refine zE rfl rfl zCA ?_
 refine o_storeNW rfl rfl sh24 rfl rfl rfl (by rw[hlen,Int.toNat_natCast];omega) rfl hset ?_
 refine zA ?_
 refine zN [(3,U.box 0 0),(6,U.box 1 0)] ([SB.box [.int .i64 (Bk.parts b),.int .i64 (Bk.size b),.lst .ro 1 (zF (Bk.beats b)),.int .i64 (Bk.start b),.int .i64 (Bk.fin b),.int .i64 (Bk.tlo b),.int .i64 (Bk.thi b),.int .i64 (Bk.slo b),.int .i64 (Bk.shi b),.int .i64 (Bk.notice b),U.sl 2 0 (List.length (Bk.players b)) 3],SB.box [.int .i64 0,.int .i64 0,.lst .full 0 [],.int .i64 0,.int .i64 0,.int .i64 0,.int .i64 0,.int .i64 0,.int .i64 0,.int .i64 0,.lst .full 0 []],SB.box (plF (List.set (Bk.players b) i {la:=(0:Int),lb:=late,cat:=Pl.cat p}))]) (.cons rfl (.cons rfl (.nil rfl))) rfl fun fr=>?_
 obtain⟨W,hW⟩:∃W,W=b.players.set i ⟨0,late,p.cat⟩:=⟨_,rfl⟩
 have hWl:W.length=b.players.length:=by rw[hW,List.length_set]
 rw[←hW]
 have hfs:yM (plsU W)=(((plF W).map dg).drop 0).take (b.players.length*3):=by
  rw[zGZ,zDh,List.drop_zero,List.take_of_length_le (by rw[zEJ,hWl];exact Nat.le_refl _)]
 have hez:∀e∈plsU W,(zz e).length=3:=fun e he=>by
  obtain⟨q,_,rfl⟩:=List.mem_map.1 he;rfl
 have hel:(plsU W).length=b.players.length:=by rw[List.length_map,hWl]
 have hle:0+b.players.length*3≤((plF W).map dg).length:=by rw[zGZ,zEJ,hWl];omega
 refine kQ (o_frz (a:=2) rfl ?_)
 refine zM rfl rfl rfl sh75 rfl ?_
 refine o_see 21 rfl (fun _=>rfl) (.agg _ _ (.lcons _ _ _ _ (.refl _) (.lcons _ _ _ _ (.refl _) (.lcons _ _ _ _ (.refl _) (.lcons _ _ _ _ (.refl _) (.lcons _ _ _ _ (.refl _) (.lcons _ _ _ _ (.refl _) (.lcons _ _ _ _ (.refl _) (.lcons _ _ _ _ (.refl _) (.lcons _ _ _ _ (.refl _) (.lcons _ _ _ _ (.refl _) (.lcons _ _ _ _ (.sl _ _ _ _ _ _ rfl hfs hez hel hle) (.lrefl _))))))))))))) ?_
 refine zj rfl rfl sh75 rfl rfl rfl rfl rfl ?_
 refine zA (za ?_)
 refine⟨.inr rfl,_,.cons _ _ _ _ (.cellN 6 75 _ _ _ _ rfl rfl sh75 rfl) .nil,?_⟩
 exact .refl _
end
end Go.Proofs.YtfbmlibilcjlgaaDoor.drumBound
