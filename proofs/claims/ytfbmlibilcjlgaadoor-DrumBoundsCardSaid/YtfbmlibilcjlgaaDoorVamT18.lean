import Derived.Test.YtfbmlibilcjlgaaDoorVamT17
set_option linter.unusedVariables false
set_option linter.unusedSimpArgs false
set_option linter.constructorNameAsVariable false
namespace Go.Proofs.YtfbmlibilcjlgaaDoor.drumBounds
open Vam
section
variable {is:FuncId→Bool}{orc:Known}{b:Bk}
noncomputable def b77:Code:=(Tryd.f77.body).getD .skip
theorem body77:bodyOf Tryd.prog 77=some (7,b77,[.tmp 3]):=by kernel_rfl
theorem pure77:pureFn Tryd.prog 77=false:=by kernel_rfl
noncomputable def b108:Code:=(Tryd.f108.body).getD .skip
theorem body108:bodyOf Tryd.prog 108=some (11,b108,[.tmp 4]):=by kernel_rfl
theorem pure108:pureFn Tryd.prog 108=false:=by kernel_rfl
noncomputable def b78:Code:=(Tryd.f78.body).getD .skip
theorem body78:bodyOf Tryd.prog 78=some (13,b78,[.tmp 4,.tmp 5]):=by kernel_rfl
theorem pure78:pureFn Tryd.prog 78=true:=by kernel_rfl
noncomputable def b31:Code:=(Tryd.f31.body).getD .skip
theorem body31:bodyOf Tryd.prog 31=some (29,b31,[.tmp 4,.tmp 5]):=by kernel_rfl
theorem pure31:pureFn Tryd.prog 31=true:=by kernel_rfl
theorem held_ok(hb:BOk b){i:Nat}{p:Pl}(hp:b.players[i]? =some p){lo hg:Int}(h:0≤lo∧lo≤hg∧hg≤500):BOk (zBo b i lo hg):=by
 rw[zDo hp]
 refine⟨hb.n4,by show 1≤(b.players.set i _).length∧(b.players.set i _).length≤5;rw[List.length_set];exact hb.pn,fun q hq=>?_,hb.pa,hb.sz,hb.bt,hb.st,hb.fi,hb.ti,hb.sl,hb.no⟩
 rcases List.mem_or_eq_of_mem_set (show q∈b.players.set i _ from hq)with hq|rfl
 ·exact hb.pl q hq
 ·exact⟨h,(pl_ok hb hp).2⟩
theorem slip_held(i:Nat)(lo hg:Int)(w:Bool)(L:List Int)(n:Nat):zAs (zBo b i lo hg) w L n=zAs b w L n:=rfl
theorem aft_held(i:Nat)(lo hg:Int)(w:Bool)(L:List Int)(p:Pl)(n:Nat):aftI (zBo b i lo hg) w L p n=aftI b w L p n:=by
 induction n with
 |zero=>rfl
 |succ n ih=>
  show max 0 (aftI (zBo b i lo hg) w L p n+zAs (zBo b i lo hg) w L n - catI (!w) p ((L[n / b.size.toNat]?).getD 0))=max 0 (aftI b w L p n+zAs b w L n - catI (!w) p ((L[n / b.size.toNat]?).getD 0))
  rw[ih,slip_held]
theorem aft_mono{L:List Int}{p q:Pl}(hl:p.lb≤q.lb)(hc:p.cat=q.cat)(n:Nat):aftI b true L p n≤aftI b true L q n:=by
 induction n with
 |zero=>exact hl
 |succ n ih=>
  show max 0 (aftI b true L p n+zAs b true L n - catI false p _)≤max 0 (aftI b true L q n+zAs b true L n - catI false q _)
  have:∀x,catI false p x=catI false q x:=fun x=>by unfold catI;rw[hc]
  rw[this];omega
theorem last_held(i:Nat)(lo hg:Int)(L:List Int)(n:Nat):zAL (zBo b i lo hg) L n=zAL b L n:=by
 induction n with
 |zero=>rfl
 |succ n ih=>show zAL (zBo b i lo hg) L n+b.size*zDp b _=zAL b L n+b.size*zDp b _;rw[ih]
theorem zero_iff{f:Nat→Int}:zeroB f=true↔f 0=0∧f 1=0∧f 2=0∧f 3=0∧f 4=0:=by
 unfold zeroB
 simp only[Bool.and_eq_true,decide_eq_true_eq]
theorem aftF_held{i:Nat}{p:Pl}(hp:b.players[i]? =some p)(lo hg:Int)(w:Bool)(L:List Int)(n j:Nat):aftF (zBo b i lo hg) w L n j=if j=i then aftI b w L ⟨lo,hg,p.cat⟩ n else aftF b w L n j:=by
 have hil:=(List.getElem?_eq_some_iff.1 hp).1
 unfold aftF
 rw[zDo hp]
 show(match(b.players.set i ⟨lo,hg,p.cat⟩)[j]? with|some p=>_|none=>_)=_
 rw[List.getElem?_set]
 by_cases e:i=j
 ·subst e
  rw[if_pos rfl,if_pos rfl,if_pos hil]
  show aftI ⟨b.parts,b.size,b.beats,b.start,b.fin,b.tlo,b.thi,b.slo,b.shi,b.notice,b.players.set i ⟨lo,hg,p.cat⟩⟩ w L ⟨lo,hg,p.cat⟩ n=_
  rw[←zDo hp];exact aft_held i lo hg w L _ n
 ·rw[if_neg e,if_neg (fun h=>e h.symm)]
  cases b.players[j]? with
  |none=>rfl
  |some q=>
   show aftI ⟨b.parts,b.size,b.beats,b.start,b.fin,b.tlo,b.thi,b.slo,b.shi,b.notice,b.players.set i ⟨lo,hg,p.cat⟩⟩ w L q n=_
   rw[←zDo hp];exact aft_held i lo hg w L _ n
theorem plan_held(hb:BOk b){i:Nat}{p:Pl}(hp:b.players[i]? =some p){lo hg lo2 hg2:Int}(h2:hg2≤hg){L:List Int}(hL:∀x∈L,0≤x∧x≤3)(hk:0≤lo2∧lo2≤hg2∧hg2≤500)(h:zBh (zBo b i lo hg) L=true):zBh (zBo b i lo2 hg2) L=true:=by
 unfold zBh at h ⊢
 rw[last_held]at h ⊢
 rw[Bool.and_eq_true,Bool.and_eq_true]at h ⊢
 obtain⟨h3,h4,h5⟩:=h
 refine⟨h3,h4,?_⟩
 change zeroB (aftF (zBo b i lo hg) true L (b.parts*b.size).toNat)=true at h5
 show zeroB (aftF (zBo b i lo2 hg2) true L (b.parts*b.size).toNat)=true
 rw[zero_iff]at h5 ⊢
 simp only[aftF_held hp]at h5 ⊢
 have hm:=aft_mono (b:=b) (L:=L) (p:=⟨lo2,hg2,p.cat⟩) (q:=⟨lo,hg,p.cat⟩) h2 rfl (b.parts*b.size).toNat
 have hn:=(aft_b hb true L hL (p:=⟨lo2,hg2,p.cat⟩) ⟨hk,(pl_ok hb hp).2⟩ (b.parts*b.size).toNat).1
 generalize aftI b true L ⟨lo2,hg2,p.cat⟩ (b.parts*b.size).toNat=x at*
 generalize aftI b true L ⟨lo,hg,p.cat⟩ (b.parts*b.size).toNat=y at*
 refine⟨?_,?_,?_,?_,?_⟩
 ·have:=h5.1;split at this<;>rename_i c<;>simp only[c,if_true,if_false]<;>first|omega|exact this
 ·have:=h5.2.1;split at this<;>rename_i c<;>simp only[c,if_true,if_false]<;>first|omega|exact this
 ·have:=h5.2.2.1;split at this<;>rename_i c<;>simp only[c,if_true,if_false]<;>first|omega|exact this
 ·have:=h5.2.2.2.1;split at this<;>rename_i c<;>simp only[c,if_true,if_false]<;>first|omega|exact this
 ·have:=h5.2.2.2.2;split at this<;>rename_i c<;>simp only[c,if_true,if_false]<;>first|omega|exact this
theorem pok_held{i:Nat}{lo hg:Int}{L:List Int}:POk (zBo b i lo hg) L↔POk b L:=⟨fun h=>⟨h.len,h.rg,h.st,h.nr⟩,fun h=>⟨h.len,h.rg,h.st,h.nr⟩⟩
theorem plans_held(hb:BOk b){i:Nat}{p:Pl}(hp:b.players[i]? =some p){lo hg lo2 hg2:Int}(h2:hg2≤hg)(hk:0≤lo∧lo≤hg∧hg≤500)(hk2:0≤lo2∧lo2≤hg2∧hg2≤500){L:List Int}(h:L∈zEc (zBo b i lo hg)):L∈zEc (zBo b i lo2 hg2):=by
 rw[mem_plans (held_ok hb hp hk),pok_held]at h
 rw[mem_plans (held_ok hb hp hk2),pok_held]
 exact⟨h.1,plan_held hb hp h2 h.1.rg hk2 h.2⟩
def noP(b:Bk)(i:Nat)(late:Nat):Bool:= !(decide (zEc (zBo b i 0 late)≠[]))
theorem noP_mono(hb:BOk b){i:Nat}{p:Pl}(hp:b.players[i]? =some p)(x y:Nat)(hxy:x≤y)(hy:y<501)(h:noP b i x=true):noP b i y=true:=by
 unfold noP at h ⊢
 rw[Bool.not_eq_true',decide_eq_false_iff_not]at h ⊢
 intro h2
 refine h fun h3=>h2 ?_
 cases hl:zEc (zBo b i 0 (y:Int))with
 |nil=>rfl
 |cons L l=>
  have:=plans_held hb hp (lo:=0) (hg:=y) (lo2:=0) (hg2:=x) (by omega) (by omega) (by omega) (L:=L) (by rw[hl];exact List.mem_cons_self)
  rw[h3]at this;cases this
theorem least_ex(f:Nat→Bool)(n:Nat)(hm:∀x y,x≤y→y<n→f x=true→f y=true):∃i,Least f n i:=by
 induction n with
 |zero=>exact⟨0,Nat.le_refl _,(fun j h=>by omega),(fun j h h2=>by omega)⟩
 |succ n ih=>
  obtain⟨i,h1,h2,h3⟩:=ih fun x y a c=>hm x y a (by omega)
  cases hf:f n with
  |true=>exact⟨i,by omega,h2,fun j a c=>hm i j a c (by
    by_cases hi:i<n
    ·exact h3 i (Nat.le_refl _) hi
    ·have:i=n:=by omega
     subst this;exact hf)⟩
  |false=>exact⟨n+1,Nat.le_refl _,(fun j a=>by
    by_cases hj:j=n
    ·subst hj;exact hf
    ·cases hfj:f j with
     |false=>rfl
     |true=>rw[hm j n (by omega) (by omega) hfj]at hf;cases hf),(fun j a c=>by omega)⟩
theorem least_uni{f:Nat→Bool}{n i j:Nat}(h:Least f n i)(k:Least f n j):i=j:=by
 rcases Nat.lt_trichotomy i j with h1|h1|h1
 ·have:=k.lo i h1;have h3:=h.hi i (Nat.le_refl _) (by have:=k.le;omega);rw[this]at h3;cases h3
 ·exact h1
 ·have:=h.lo j h1;have h3:=k.hi j (Nat.le_refl _) (by have:=h.le;omega);rw[this]at h3;cases h3
end
section
variable {is:FuncId→Bool}{orc:Known}{b:Bk}
theorem wpc108(hi:Off is)(hb:BOk b){i:Nat}{p:Pl}(hp:b.players[i]? =some p){late:Nat}(hl:late≤500){st:List SB}{j k:Nat}(hj:st[j]? =some (.box (Bk.cs b)))(hk:st[k]? =some (.box [.int .i64 i])):WpC Tryd.prog is orc 108 [.int .i64 late,.box j 0,.box k 0] st fun u st'=>u=.bool (noP b i late)∧∃e,st'=st++e:=by
 refine zAW body108 pure108 rfl rfl ?_
 have q109:=ret109 (orc:=orc) hi hb hp late
 have q110:=ret110 (orc:=orc) hi (held_ok hb hp (lo:=0) (hg:=late) (by omega))
 unfold noP
 generalize decide (zEc (zBo b i 0 (late:Int))≠[])=z at*
 refine kQ (zB rfl (zA (kQ (zJ rfl rfl hj sh75 rfl ?_))))
 refine zF rfl rfl hk sh3 rfl ?_
 refine zC rfl (zP rfl (q109) (.lrefl _) (zP rfl (q110) (.lrefl _) (yu rfl rfl (zB rfl (zA (zU ?_))))))
 refine⟨.inr rfl,_,.cons _ _ _ _ (.tmp 4) .nil,?_⟩
 exact⟨_,.refl _,rfl,[],by rw[List.append_nil];rfl⟩
theorem ret78(hi:Off is)(hb:BOk b){i:Nat}{p:Pl}(hp:b.players[i]? =some p){m:Nat}(hm:Least (noP b i) 501 m):RetP Tryd.prog is orc 78 [b.u,.int .i64 i] (.tup [.int .i64 (if m=0 then 0 else(m:Int) - 1),.bool (decide (m≠0))]):=by
 refine zk body78 pure78 (hi 78 (by decide)) rfl rfl (yM (yK b 4) (.int _ _ _)) (.inr ⟨_,rfl,yM (k:=7) (.int _ _ _) (.bool _ _)⟩) ?_
 refine kQ (zc rfl rfl (zc rfl rfl (zB rfl (zB rfl (zA ?_)))))
 refine zH [(2,U.box 0 0),(3,U.box 1 0)] ([SB.box (Bk.cs b),SB.box [.int .i64 ↑i]]) (.cons rfl (.cons rfl (.nil rfl))) rfl fun fr=>?_
 refine kQ ?_
 refine zBw rfl ?_
 refine zBM rfl (wpc107 hi (n:=501) (f:=noP b i) (by omega) (fun x y a c d=>noP_mono hb hp x y a c d) (fun x e hx=>wpc108 hi hb hp (by omega) (j:=0) (k:=1) (zo rfl) (zo rfl))) (.lrefl _) (fun u st1 hM=>?_)
 obtain⟨⟨m2,hm2,rfl⟩,e,hY⟩:=hM
 have hmm:=least_uni hm hm2
 subst hmm
 have hle:=hm.le
 by_cases h0:m=0
 ·rw[if_pos h0,decide_eq_false (by simp[h0])]
  refine zB rfl (zA (k_seq (kQ (zC rfl (zAt rfl rfl rfl (zA (k_cT rfl (decide_eq_true (by omega)) (kQ ?_))))))))
  refine zB rfl (zB rfl (zA (zU ?_)))
  refine⟨.inr rfl,_,.cons _ _ _ _ (.tmp 4) (.cons _ _ _ _ (.tmp 5) .nil),?_⟩
  exact .refl _
 ·rw[if_neg h0,decide_eq_true h0]
  refine zB rfl (zA (k_seq (kQ (zC rfl (zAt rfl rfl rfl (zA (k_cF rfl (decide_eq_false (by omega)) (zQ ?_))))))))
  refine kQ (zC rfl ?_)
  refine yn rfl rfl rfl (by unfold I64;omega) (zB rfl (zB rfl (zA (zU ?_))))
  refine⟨.inr rfl,_,.cons _ _ _ _ (.tmp 4) (.cons _ _ _ _ (.tmp 5) .nil),?_⟩
  exact .refl _
theorem wpc77(hi:Off is){i:Nat}(hil:i<b.players.length){st:List SB}{k:Nat}(hk:st[k]? =some (.box [.int .i64 i])):WpC Tryd.prog is orc 77 [b.u,.box k 0] st fun u st'=>u=.bool true∧∃e,st'=st++e:=by
 refine zAW body77 pure77 rfl rfl ?_
 have q63:RetP Tryd.prog is orc 63 [b.u,.int .i64 i] (.bool true):=by
  have:=ret63 (orc:=orc) hi b (i:Int)
  rw[decide_eq_true (show(0:Int)≤i by omega),decide_eq_true (show(i:Int)<b.players.length by omega)]at this;exact this
 refine kQ (zc rfl rfl (zB rfl (zA ?_)))
 refine zH [(1,U.box k 0),(2,U.box (List.length st) 0)] (st++[SB.box (Bk.cs b)]) (.cons rfl (.cons rfl (.nil rfl))) rfl fun fr=>?_
 refine kQ (zJ rfl rfl (zp _ _) sh75 rfl ?_)
 refine zF rfl rfl (zo hk) sh3 rfl ?_
 refine zP rfl (q63) (.lrefl _) (zB rfl (zA (zU ?_)))
 refine⟨.inr rfl,_,.cons _ _ _ _ (.tmp 3) .nil,?_⟩
 exact⟨_,.refl _,rfl,_,rfl⟩
theorem ret31(hi:Off is)(hb:BOk b){i:Nat}{p:Pl}(hp:b.players[i]? =some p){m:Nat}(hm:Least (noP b i) 501 m):RetP Tryd.prog is orc 31 [b.u,.int .i64 i] (.tup [.int .i64 (if m=0 then 0 else(m:Int) - 1),.int .i64 (if m=0 then 4 else 0)]):=by
 have hil:=(List.getElem?_eq_some_iff.1 hp).1
 refine zk body31 pure31 (hi 31 (by decide)) rfl rfl (yM (yK b 4) (.int _ _ _)) (.inr ⟨_,rfl,yM (k:=7) (.int _ _ _) (.int _ _ _)⟩) ?_
 have q78:=ret78 (orc:=orc) hi hb hp hm
 refine kQ (zc rfl rfl (zc rfl rfl (zB rfl (zB rfl (zA ?_)))))
 refine zH [(2,U.box 0 0),(3,U.box 1 0)] ([SB.box (Bk.cs b),SB.box [.int .i64 ↑i]]) (.cons rfl (.cons rfl (.nil rfl))) rfl fun fr=>?_
 refine kQ (zJ rfl rfl rfl sh27 rfl ?_)
 refine zBw rfl ?_
 refine wb (es:=[U.fn 77 [] [U.box 1 0]]) rfl zFM ze83 cl83 rfl rfl rfl rfl rfl rfl rfl rfl ?_
 refine zBM rfl (wpc60v hi hb (fun X=>wpc77 hi hil (k:=1) (zo rfl))) (.lcons _ _ _ _ (.refl _) (.lcons _ _ _ _ (.ro _ _ _) (.lrefl _))) (fun u st1 hM=>?_)
 obtain⟨rfl,e,hY⟩:=hM
 have y1:st1[1]? =some (.box [.int .i64 i]):=by rw[hY];rfl
 by_cases h0:m=0
 ·rw[if_pos h0,decide_eq_false (by simp[h0])]at q78
  rw[if_pos h0,if_pos h0]
  refine zC rfl (zX rfl rfl rfl (zX rfl rfl rfl (zi rfl ze75 ?_)))
  refine zZ rfl (zp _ _) sh75 rfl rfl rfl rfl rfl ?_
  refine zB rfl (zA ?_)
  refine zH [(3,U.box 1 0),(6,U.box (List.length st1) 0),(7,.int .i64 0)] (st1++[SB.box (Bk.cs b)]) (.cons rfl (.cons rfl (.cons rfl (.nil rfl)))) (yx _ _ _) fun fr=>?_
  refine k_seq (kQ (zC rfl (wC rfl rfl rfl (zA (k_cF rfl rfl ?_)))))
  refine zQ (kQ (zJ rfl rfl (zp _ _) sh75 rfl ?_))
  refine zF rfl rfl (zo y1) sh3 rfl ?_
  refine zP rfl (q78) (.lrefl _) (zC rfl (zX rfl rfl rfl (zX rfl rfl rfl (zB rfl (zB rfl (zA (k_seq (kQ ?_))))))))
  refine zC rfl (yu rfl rfl (zA ?_))
  refine zH [(8,.int .i64 0),(27,U.bool !Bool.false)] (st1++[SB.box (Bk.cs b)]) (.cons rfl (.cons rfl (.nil rfl))) rfl fun fr=>?_
  refine k_cT rfl rfl ?_
  refine kQ (zB rfl (zB rfl (zA (zU ?_))))
  refine⟨.inr rfl,_,.cons _ _ _ _ (.tmp 4) (.cons _ _ _ _ (.tmp 5) .nil),?_⟩
  exact .refl _
 ·rw[if_neg h0,decide_eq_true h0]at q78
  rw[if_neg h0,if_neg h0]
  refine zC rfl (zX rfl rfl rfl (zX rfl rfl rfl (zi rfl ze75 ?_)))
  refine zZ rfl (zp _ _) sh75 rfl rfl rfl rfl rfl ?_
  refine zB rfl (zA ?_)
  refine zH [(3,U.box 1 0),(6,U.box (List.length st1) 0),(7,.int .i64 0)] (st1++[SB.box (Bk.cs b)]) (.cons rfl (.cons rfl (.cons rfl (.nil rfl)))) (yx _ _ _) fun fr=>?_
  refine k_seq (kQ (zC rfl (wC rfl rfl rfl (zA (k_cF rfl rfl ?_)))))
  refine zQ (kQ (zJ rfl rfl (zp _ _) sh75 rfl ?_))
  refine zF rfl rfl (zo y1) sh3 rfl ?_
  refine zP rfl (q78) (.lrefl _) (zC rfl (zX rfl rfl rfl (zX rfl rfl rfl (zB rfl (zB rfl (zA (k_seq (kQ ?_))))))))
  refine zC rfl (yu rfl rfl (zA ?_))
  refine zH [(8,.int .i64 (↑m - (1:Int))),(27,U.bool !Bool.true)] (st1++[SB.box (Bk.cs b)]) (.cons rfl (.cons rfl (.nil rfl))) rfl fun fr=>?_
  refine k_cF rfl rfl ?_
  refine zQ (kQ (zC rfl (zB rfl (zB rfl (zA (zU ?_))))))
  refine⟨.inr rfl,_,.cons _ _ _ _ (.tmp 4) (.cons _ _ _ _ (.tmp 5) .nil),?_⟩
  exact .refl _
end
end Go.Proofs.YtfbmlibilcjlgaaDoor.drumBounds
