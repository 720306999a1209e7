import Derived.Test.YtfbmlibilcjlgaaDoorVamT15
set_option linter.unusedVariables false
set_option linter.unusedSimpArgs false
set_option linter.constructorNameAsVariable false
namespace Go.Proofs.YtfbmlibilcjlgaaDoor.drumBound
open Vam
section
variable {is:FuncId→Bool}{orc:Known}{b:Bk}
noncomputable def b77:Code:=(Tryd.f77.body).getD .skip
theorem body77:bodyOf Tryd.prog 77=some (7,b77,[.tmp 3]):=by kernel_rfl
theorem pure77:pureFn Tryd.prog 77=false:=by kernel_rfl
noncomputable def b108:Code:=(Tryd.f108.body).getD .skip
theorem body108:bodyOf Tryd.prog 108=some (11,b108,[.tmp 4]):=by kernel_rfl
theorem pure108:pureFn Tryd.prog 108=false:=by kernel_rfl
noncomputable def b78:Code:=(Tryd.f78.body).getD .skip
theorem body78:bodyOf Tryd.prog 78=some (13,b78,[.tmp 4,.tmp 5]):=by kernel_rfl
theorem pure78:pureFn Tryd.prog 78=true:=by kernel_rfl
noncomputable def b31:Code:=(Tryd.f31.body).getD .skip
theorem body31:bodyOf Tryd.prog 31=some (29,b31,[.tmp 4,.tmp 5]):=by kernel_rfl
theorem pure31:pureFn Tryd.prog 31=true:=by kernel_rfl
theorem held_ok(hb:BOk b){i:Nat}{p:Pl}(hp:b.players[i]? =some p){lo hg:Int}(h:0≤lo∧lo≤hg∧hg≤500):BOk (wg b i lo hg):=by
 rw[zDY hp]
 refine⟨hb.n4,by show 1≤(b.players.set i _).length∧(b.players.set i _).length≤5;rw[List.length_set];exact hb.pn,fun q hq=>?_,hb.pa,hb.sz,hb.bt,hb.st,hb.fi,hb.ti,hb.sl,hb.no⟩
 rcases List.mem_or_eq_of_mem_set (show q∈b.players.set i _ from hq)with hq|rfl
 ·exact hb.pl q hq
 ·exact⟨h,(pl_ok hb hp).2⟩
theorem slip_held(i:Nat)(lo hg:Int)(w:Bool)(L:List Int)(n:Nat):zDL (wg b i lo hg) w L n=zDL b w L n:=rfl
theorem aft_held(i:Nat)(lo hg:Int)(w:Bool)(L:List Int)(p:Pl)(n:Nat):aftI (wg b i lo hg) w L p n=aftI b w L p n:=by
 induction n with
 |zero=>rfl
 |succ n ih=>
  show max 0 (aftI (wg b i lo hg) w L p n+zDL (wg b i lo hg) w L n - catI (!w) p ((L[n / b.size.toNat]?).getD 0))=max 0 (aftI b w L p n+zDL b w L n - catI (!w) p ((L[n / b.size.toNat]?).getD 0))
  rw[ih,slip_held]
theorem aft_mono{L:List Int}{p q:Pl}(hl:p.lb≤q.lb)(hc:p.cat=q.cat)(n:Nat):aftI b true L p n≤aftI b true L q n:=by
 induction n with
 |zero=>exact hl
 |succ n ih=>
  show max 0 (aftI b true L p n+zDL b true L n - catI false p _)≤max 0 (aftI b true L q n+zDL b true L n - catI false q _)
  have:∀x,catI false p x=catI false q x:=fun x=>by unfold catI;rw[hc]
  rw[this];omega
theorem last_held(i:Nat)(lo hg:Int)(L:List Int)(n:Nat):zCV (wg b i lo hg) L n=zCV b L n:=by
 induction n with
 |zero=>rfl
 |succ n ih=>show zCV (wg b i lo hg) L n+b.size*zEu b _=zCV b L n+b.size*zEu b _;rw[ih]
theorem zero_iff{f:Nat→Int}:zeroB f=true↔f 0=0∧f 1=0∧f 2=0∧f 3=0∧f 4=0:=by
 unfold zeroB
 simp only[Bool.and_eq_true,decide_eq_true_eq]
theorem aftF_held{i:Nat}{p:Pl}(hp:b.players[i]? =some p)(lo hg:Int)(w:Bool)(L:List Int)(n j:Nat):aftF (wg b i lo hg) w L n j=if j=i then aftI b w L ⟨lo,hg,p.cat⟩ n else aftF b w L n j:=by
 have hil:=(List.getElem?_eq_some_iff.1 hp).1
 unfold aftF
 rw[zDY hp]
 show(match(b.players.set i ⟨lo,hg,p.cat⟩)[j]? with|some p=>_|none=>_)=_
 rw[List.getElem?_set]
 by_cases e:i=j
 ·subst e
  rw[if_pos rfl,if_pos rfl,if_pos hil]
  show aftI ⟨b.parts,b.size,b.beats,b.start,b.fin,b.tlo,b.thi,b.slo,b.shi,b.notice,b.players.set i ⟨lo,hg,p.cat⟩⟩ w L ⟨lo,hg,p.cat⟩ n=_
  rw[←zDY hp];exact aft_held i lo hg w L _ n
 ·rw[if_neg e,if_neg (fun h=>e h.symm)]
  cases b.players[j]? with
  |none=>rfl
  |some q=>
   show aftI ⟨b.parts,b.size,b.beats,b.start,b.fin,b.tlo,b.thi,b.slo,b.shi,b.notice,b.players.set i ⟨lo,hg,p.cat⟩⟩ w L q n=_
   rw[←zDY hp];exact aft_held i lo hg w L _ n
theorem plan_held(hb:BOk b){i:Nat}{p:Pl}(hp:b.players[i]? =some p){lo hg lo2 hg2:Int}(h2:hg2≤hg){L:List Int}(hL:∀x∈L,0≤x∧x≤3)(hk:0≤lo2∧lo2≤hg2∧hg2≤500)(h:planB (wg b i lo hg) L=true):planB (wg b i lo2 hg2) L=true:=by
 unfold planB at h ⊢
 rw[last_held]at h ⊢
 rw[Bool.and_eq_true,Bool.and_eq_true]at h ⊢
 obtain⟨h3,h4,h5⟩:=h
 refine⟨h3,h4,?_⟩
 change zeroB (aftF (wg b i lo hg) true L (b.parts*b.size).toNat)=true at h5
 show zeroB (aftF (wg b i lo2 hg2) true L (b.parts*b.size).toNat)=true
 rw[zero_iff]at h5 ⊢
 simp only[aftF_held hp]at h5 ⊢
 have hm:=aft_mono (b:=b) (L:=L) (p:=⟨lo2,hg2,p.cat⟩) (q:=⟨lo,hg,p.cat⟩) h2 rfl (b.parts*b.size).toNat
 have hn:=(aft_b hb true L hL (p:=⟨lo2,hg2,p.cat⟩) ⟨hk,(pl_ok hb hp).2⟩ (b.parts*b.size).toNat).1
 generalize aftI b true L ⟨lo2,hg2,p.cat⟩ (b.parts*b.size).toNat=x at*
 generalize aftI b true L ⟨lo,hg,p.cat⟩ (b.parts*b.size).toNat=y at*
 refine⟨?_,?_,?_,?_,?_⟩
 ·have:=h5.1;split at this<;>rename_i c<;>simp only[c,if_true,if_false]<;>first|omega|exact this
 ·have:=h5.2.1;split at this<;>rename_i c<;>simp only[c,if_true,if_false]<;>first|omega|exact this
 ·have:=h5.2.2.1;split at this<;>rename_i c<;>simp only[c,if_true,if_false]<;>first|omega|exact this
 ·have:=h5.2.2.2.1;split at this<;>rename_i c<;>simp only[c,if_true,if_false]<;>first|omega|exact this
 ·have:=h5.2.2.2.2;split at this<;>rename_i c<;>simp only[c,if_true,if_false]<;>first|omega|exact this
theorem pok_held{i:Nat}{lo hg:Int}{L:List Int}:POk (wg b i lo hg) L↔POk b L:=⟨fun h=>⟨h.len,h.rg,h.st,h.nr⟩,fun h=>⟨h.len,h.rg,h.st,h.nr⟩⟩
theorem zEI(hb:BOk b){i:Nat}{p:Pl}(hp:b.players[i]? =some p){lo hg lo2 hg2:Int}(h2:hg2≤hg)(hk:0≤lo∧lo≤hg∧hg≤500)(hk2:0≤lo2∧lo2≤hg2∧hg2≤500){L:List Int}(h:L∈wG (wg b i lo hg)):L∈wG (wg b i lo2 hg2):=by
 rw[zDn (held_ok hb hp hk),pok_held]at h
 rw[zDn (held_ok hb hp hk2),pok_held]
 exact⟨h.1,plan_held hb hp h2 h.1.rg hk2 h.2⟩
def noP(b:Bk)(i:Nat)(late:Nat):Bool:= !(decide (wG (wg b i 0 late)≠[]))
theorem noP_mono(hb:BOk b){i:Nat}{p:Pl}(hp:b.players[i]? =some p)(x y:Nat)(hxy:x≤y)(hy:y<501)(h:noP b i x=true):noP b i y=true:=by
 unfold noP at h ⊢
 rw[Bool.not_eq_true',decide_eq_false_iff_not]at h ⊢
 intro h2
 refine h fun h3=>h2 ?_
 cases hl:wG (wg b i 0 (y:Int))with
 |nil=>rfl
 |cons L l=>
  have:=zEI hb hp (lo:=0) (hg:=y) (lo2:=0) (hg2:=x) (by omega) (by omega) (by omega) (L:=L) (by rw[hl];exact List.mem_cons_self)
  rw[h3]at this;cases this
theorem least_ex(f:Nat→Bool)(n:Nat)(hm:∀x y,x≤y→y<n→f x=true→f y=true):∃i,Least f n i:=by
 induction n with
 |zero=>exact⟨0,Nat.le_refl _,(fun j h=>by omega),(fun j h h2=>by omega)⟩
 |succ n ih=>
  obtain⟨i,h1,h2,h3⟩:=ih fun x y a c=>hm x y a (by omega)
  cases hf:f n with
  |true=>exact⟨i,by omega,h2,fun j a c=>hm i j a c (by
    by_cases hi:i<n
    ·exact h3 i (Nat.le_refl _) hi
    ·have:i=n:=by omega
     subst this;exact hf)⟩
  |false=>exact⟨n+1,Nat.le_refl _,(fun j a=>by
    by_cases hj:j=n
    ·subst hj;exact hf
    ·cases hfj:f j with
     |false=>rfl
     |true=>rw[hm j n (by omega) (by omega) hfj]at hf;cases hf),(fun j a c=>by omega)⟩
theorem least_uni{f:Nat→Bool}{n i j:Nat}(h:Least f n i)(k:Least f n j):i=j:=by
 rcases Nat.lt_trichotomy i j with h1|h1|h1
 ·have:=k.lo i h1;have h3:=h.hi i (Nat.le_refl _) (by have:=k.le;omega);rw[this]at h3;cases h3
 ·exact h1
 ·have:=h.lo j h1;have h3:=k.hi j (Nat.le_refl _) (by have:=h.le;omega);rw[this]at h3;cases h3
end
section
variable {is:FuncId→Bool}{orc:Known}{b:Bk}
theorem wpc108(hi:Off is)(hb:BOk b){i:Nat}{p:Pl}(hp:b.players[i]? =some p){late:Nat}(hl:late≤500){st:List SB}{j k:Nat}(hj:st[j]? =some (.box [.int .i64 b.parts,.int .i64 b.size,.lst .ro 1 (zF b.beats),.int .i64 b.start,.int .i64 b.fin,.int .i64 b.tlo,.int .i64 b.thi,.int .i64 b.slo,.int .i64 b.shi,.int .i64 b.notice,.lst .ro 3 (plsU b.players)]))(hk:st[k]? =some (.box [.int .i64 i])):WpC Tryd.prog is orc 108 [.int .i64 late,.box j 0,.box k 0] st fun u st'=>u=.bool (noP b i late)∧∃e,st'=st++e:=by
 refine zCI body108 pure108 rfl rfl ?_
 have q109:=ret109 (orc:=orc) hi hb hp late
 have q110:=ret110 (orc:=orc) hi (held_ok hb hp (lo:=0) (hg:=late) (by omega))
 unfold noP
 generalize decide (wG (wg b i 0 (late:Int))≠[])=z at*
 refine kQ (zB rfl (zA (kQ (zM rfl rfl hj sh75 rfl ?_))))
 refine zG rfl rfl hk sh3 rfl ?_
 refine zC rfl (zO rfl (q109) (.lrefl _) (zO rfl (q110) (.lrefl _) (wJ rfl rfl (zB rfl (zA (za ?_))))))
 refine⟨.inr rfl,_,.cons _ _ _ _ (.tmp 4) .nil,?_⟩
 exact⟨_,.refl _,rfl,[],by rw[List.append_nil];rfl⟩
theorem ret78(hi:Off is)(hb:BOk b){i:Nat}{p:Pl}(hp:b.players[i]? =some p){m:Nat}(hm:Least (noP b i) 501 m):RetP Tryd.prog is orc 78 [b.u,.int .i64 i] (.tup [.int .i64 (if m=0 then 0 else(m:Int) - 1),.bool (decide (m≠0))]):=by
 refine yS body78 pure78 (hi 78 (by decide)) rfl rfl (wn (yq b 4) (.int _ _ _)) (.inr ⟨_,rfl,wn (k:=7) (.int _ _ _) (.bool _ _)⟩) ?_
 refine kQ (yB rfl rfl (yB rfl rfl (zB rfl (zB rfl (zA ?_)))))
 refine zN [(2,U.box 0 0),(3,U.box 1 0)] ([SB.box [.int .i64 (Bk.parts b),.int .i64 (Bk.size b),.lst .ro 1 (zF (Bk.beats b)),.int .i64 (Bk.start b),.int .i64 (Bk.fin b),.int .i64 (Bk.tlo b),.int .i64 (Bk.thi b),.int .i64 (Bk.slo b),.int .i64 (Bk.shi b),.int .i64 (Bk.notice b),.lst .ro 3 (plsU (Bk.players b))],SB.box [.int .i64 ↑i]]) (.cons rfl (.cons rfl (.nil rfl))) rfl fun fr=>?_
 refine kQ ?_
 refine zEi rfl ?_
 refine zCh rfl (wpc107 hi (n:=501) (f:=noP b i) (by omega) (fun x y a c d=>noP_mono hb hp x y a c d) (fun x e hx=>wpc108 hi hb hp (by omega) (j:=0) (k:=1) (yD rfl) (yD rfl))) (.lrefl _) (fun u st1 hM=>?_)
 obtain⟨⟨m2,hm2,rfl⟩,e,hY⟩:=hM
 have hmm:=least_uni hm hm2
 subst hmm
 have hle:=hm.le
 by_cases h0:m=0
 ·rw[if_pos h0,decide_eq_false (by simp[h0])]
  refine zB rfl (zA (k_seq (kQ (zC rfl (wu rfl rfl rfl (zA (k_cT rfl (decide_eq_true (by omega)) (kQ ?_))))))))
  refine zB rfl (zB rfl (zA (za ?_)))
  refine⟨.inr rfl,_,.cons _ _ _ _ (.tmp 4) (.cons _ _ _ _ (.tmp 5) .nil),?_⟩
  exact .refl _
 ·rw[if_neg h0,decide_eq_true h0]
  refine zB rfl (zA (k_seq (kQ (zC rfl (wu rfl rfl rfl (zA (k_cF rfl (decide_eq_false (by omega)) (zW ?_))))))))
  refine kQ (zC rfl ?_)
  refine zFm rfl rfl rfl (by unfold I64;omega) (zB rfl (zB rfl (zA (za ?_))))
  refine⟨.inr rfl,_,.cons _ _ _ _ (.tmp 4) (.cons _ _ _ _ (.tmp 5) .nil),?_⟩
  exact .refl _
theorem wpc77(hi:Off is){i:Nat}(hil:i<b.players.length){st:List SB}{k:Nat}(hk:st[k]? =some (.box [.int .i64 i])):WpC Tryd.prog is orc 77 [b.u,.box k 0] st fun u st'=>u=.bool true∧∃e,st'=st++e:=by
 refine zCI body77 pure77 rfl rfl ?_
 have q63:RetP Tryd.prog is orc 63 [b.u,.int .i64 i] (.bool true):=by
  have:=ret63 (orc:=orc) hi b (i:Int)
  rw[decide_eq_true (show(0:Int)≤i by omega),decide_eq_true (show(i:Int)<b.players.length by omega)]at this;exact this
 refine kQ (yB rfl rfl (zB rfl (zA ?_)))
 refine zN [(1,U.box k 0),(2,U.box (List.length st) 0)] (st++[SB.box [.int .i64 (Bk.parts b),.int .i64 (Bk.size b),.lst .ro 1 (zF (Bk.beats b)),.int .i64 (Bk.start b),.int .i64 (Bk.fin b),.int .i64 (Bk.tlo b),.int .i64 (Bk.thi b),.int .i64 (Bk.slo b),.int .i64 (Bk.shi b),.int .i64 (Bk.notice b),.lst .ro 3 (plsU (Bk.players b))]]) (.cons rfl (.cons rfl (.nil rfl))) rfl fun fr=>?_
 refine kQ (zM rfl rfl (yA _ _) sh75 rfl ?_)
 refine zG rfl rfl (yD hk) sh3 rfl ?_
 refine zO rfl (q63) (.lrefl _) (zB rfl (zA (za ?_)))
 refine⟨.inr rfl,_,.cons _ _ _ _ (.tmp 3) .nil,?_⟩
 exact⟨_,.refl _,rfl,_,rfl⟩
theorem ret31(hi:Off is)(hb:BOk b){i:Nat}{p:Pl}(hp:b.players[i]? =some p){m:Nat}(hm:Least (noP b i) 501 m):RetP Tryd.prog is orc 31 [b.u,.int .i64 i] (.tup [.int .i64 (if m=0 then 0 else(m:Int) - 1),.int .i64 (if m=0 then 4 else 0)]):=by
 have hil:=(List.getElem?_eq_some_iff.1 hp).1
 refine yS body31 pure31 (hi 31 (by decide)) rfl rfl (wn (yq b 4) (.int _ _ _)) (.inr ⟨_,rfl,wn (k:=7) (.int _ _ _) (.int _ _ _)⟩) ?_
 have q78:=ret78 (orc:=orc) hi hb hp hm
 refine kQ (yB rfl rfl (yB rfl rfl (zB rfl (zB rfl (zA ?_)))))
 refine zN [(2,U.box 0 0),(3,U.box 1 0)] ([SB.box [.int .i64 (Bk.parts b),.int .i64 (Bk.size b),.lst .ro 1 (zF (Bk.beats b)),.int .i64 (Bk.start b),.int .i64 (Bk.fin b),.int .i64 (Bk.tlo b),.int .i64 (Bk.thi b),.int .i64 (Bk.slo b),.int .i64 (Bk.shi b),.int .i64 (Bk.notice b),.lst .ro 3 (plsU (Bk.players b))],SB.box [.int .i64 ↑i]]) (.cons rfl (.cons rfl (.nil rfl))) rfl fun fr=>?_
 refine kQ (zM rfl rfl rfl sh27 rfl ?_)
 refine zEi rfl ?_
 refine zDj (es:=[U.fn 77 [] [U.box 1 0]]) rfl ty116 ze83 cl83 rfl rfl rfl rfl rfl rfl rfl rfl ?_
 refine zCh rfl (wpc60v hi hb (fun X=>wpc77 hi hil (k:=1) (yD rfl))) (.lcons _ _ _ _ (.refl _) (.lcons _ _ _ _ (.ro _ _ _) (.lrefl _))) (fun u st1 hM=>?_)
 obtain⟨rfl,e,hY⟩:=hM
 have y1:st1[1]? =some (.box [.int .i64 i]):=by rw[hY];rfl
 by_cases h0:m=0
 ·rw[if_pos h0,decide_eq_false (by simp[h0])]at q78
  rw[if_pos h0,if_pos h0]
  refine zC rfl (zQ rfl rfl rfl (zQ rfl rfl rfl (zt rfl ze75 ?_)))
  refine zj rfl (yA _ _) sh75 rfl rfl rfl rfl rfl ?_
  refine zB rfl (zA ?_)
  refine zN [(3,U.box 1 0),(6,U.box (List.length st1) 0),(7,.int .i64 0)] (st1++[SB.box [.int .i64 (Bk.parts b),.int .i64 (Bk.size b),.lst .ro 1 (zF (Bk.beats b)),.int .i64 (Bk.start b),.int .i64 (Bk.fin b),.int .i64 (Bk.tlo b),.int .i64 (Bk.thi b),.int .i64 (Bk.slo b),.int .i64 (Bk.shi b),.int .i64 (Bk.notice b),.lst .ro 3 (plsU (Bk.players b))]]) (.cons rfl (.cons rfl (.cons rfl (.nil rfl)))) (wU _ _ _) fun fr=>?_
  refine k_seq (kQ (zC rfl (zBH rfl rfl rfl (zA (k_cF rfl rfl ?_)))))
  refine zW (kQ (zM rfl rfl (yA _ _) sh75 rfl ?_))
  refine zG rfl rfl (yD y1) sh3 rfl ?_
  refine zO rfl (q78) (.lrefl _) (zC rfl (zQ rfl rfl rfl (zQ rfl rfl rfl (zB rfl (zB rfl (zA (k_seq (kQ ?_))))))))
  refine zC rfl (wJ rfl rfl (zA ?_))
  refine zN [(8,.int .i64 0),(27,U.bool !Bool.false)] (st1++[SB.box [.int .i64 (Bk.parts b),.int .i64 (Bk.size b),.lst .ro 1 (zF (Bk.beats b)),.int .i64 (Bk.start b),.int .i64 (Bk.fin b),.int .i64 (Bk.tlo b),.int .i64 (Bk.thi b),.int .i64 (Bk.slo b),.int .i64 (Bk.shi b),.int .i64 (Bk.notice b),.lst .ro 3 (plsU (Bk.players b))]]) (.cons rfl (.cons rfl (.nil rfl))) rfl fun fr=>?_
  refine k_cT rfl rfl ?_
  refine kQ (zB rfl (zB rfl (zA (za ?_))))
  refine⟨.inr rfl,_,.cons _ _ _ _ (.tmp 4) (.cons _ _ _ _ (.tmp 5) .nil),?_⟩
  exact .refl _
 ·rw[if_neg h0,decide_eq_true h0]at q78
  rw[if_neg h0,if_neg h0]
  refine zC rfl (zQ rfl rfl rfl (zQ rfl rfl rfl (zt rfl ze75 ?_)))
  refine zj rfl (yA _ _) sh75 rfl rfl rfl rfl rfl ?_
  refine zB rfl (zA ?_)
  refine zN [(3,U.box 1 0),(6,U.box (List.length st1) 0),(7,.int .i64 0)] (st1++[SB.box [.int .i64 (Bk.parts b),.int .i64 (Bk.size b),.lst .ro 1 (zF (Bk.beats b)),.int .i64 (Bk.start b),.int .i64 (Bk.fin b),.int .i64 (Bk.tlo b),.int .i64 (Bk.thi b),.int .i64 (Bk.slo b),.int .i64 (Bk.shi b),.int .i64 (Bk.notice b),.lst .ro 3 (plsU (Bk.players b))]]) (.cons rfl (.cons rfl (.cons rfl (.nil rfl)))) (wU _ _ _) fun fr=>?_
  refine k_seq (kQ (zC rfl (zBH rfl rfl rfl (zA (k_cF rfl rfl ?_)))))
  refine zW (kQ (zM rfl rfl (yA _ _) sh75 rfl ?_))
  refine zG rfl rfl (yD y1) sh3 rfl ?_
  refine zO rfl (q78) (.lrefl _) (zC rfl (zQ rfl rfl rfl (zQ rfl rfl rfl (zB rfl (zB rfl (zA (k_seq (kQ ?_))))))))
  refine zC rfl (wJ rfl rfl (zA ?_))
  refine zN [(8,.int .i64 (↑m - (1:Int))),(27,U.bool !Bool.true)] (st1++[SB.box [.int .i64 (Bk.parts b),.int .i64 (Bk.size b),.lst .ro 1 (zF (Bk.beats b)),.int .i64 (Bk.start b),.int .i64 (Bk.fin b),.int .i64 (Bk.tlo b),.int .i64 (Bk.thi b),.int .i64 (Bk.slo b),.int .i64 (Bk.shi b),.int .i64 (Bk.notice b),.lst .ro 3 (plsU (Bk.players b))]]) (.cons rfl (.cons rfl (.nil rfl))) rfl fun fr=>?_
  refine k_cF rfl rfl ?_
  refine zW (kQ (zC rfl (zB rfl (zB rfl (zA (za ?_))))))
  refine⟨.inr rfl,_,.cons _ _ _ _ (.tmp 4) (.cons _ _ _ _ (.tmp 5) .nil),?_⟩
  exact .refl _
end
section
variable {is:FuncId→Bool}{orc:Known}{b:Bk}
noncomputable def b11:Code:=(Tryd.f11.body).getD .skip
theorem body11:bodyOf Tryd.prog 11=some (129,b11,[.tmp 6]):=by kernel_rfl
theorem pure11:pureFn Tryd.prog 11=true:=by kernel_rfl
theorem zFf(hb:BOk b){i:Nat}{p:Pl}(hp:b.players[i]? =some p){m:Nat}(hm:Least (noP b i) 501 m){lo hg:Int}(hk:0≤lo∧lo≤hg∧hg≤500):wG (wg b i lo hg)=[]↔(m:Int)≤hg:=by
 obtain⟨n,rfl⟩:∃n:Nat,hg=n:=⟨hg.toNat,by omega⟩
 have key:noP b i n=true↔m≤n:=by
  constructor
  ·intro h
   rcases Nat.lt_or_ge n m with h1|h1
   ·rw[hm.lo n h1]at h;cases h
   ·exact h1
  ·intro h;exact hm.hi n h (by omega)
 have k2:noP b i n=true↔wG (wg b i 0 n)=[]:=by
  unfold noP
  rw[Bool.not_eq_true',decide_eq_false_iff_not]
  exact Decidable.not_not
 have k3:wG (wg b i lo n)=[]↔wG (wg b i 0 n)=[]:=by
  constructor
  ·intro h
   cases hl:wG (wg b i 0 (n:Int))with
   |nil=>rfl
   |cons L l=>
    have:=zEI hb hp (lo:=0) (hg:=n) (lo2:=lo) (hg2:=n) (by omega) (by omega) (by omega) (L:=L) (by rw[hl];exact List.mem_cons_self)
    rw[h]at this;cases this
  ·intro h
   cases hl:wG (wg b i lo (n:Int))with
   |nil=>rfl
   |cons L l=>
    have:=zEI hb hp (lo:=lo) (hg:=n) (lo2:=0) (hg2:=n) (by omega) (by omega) (by omega) (L:=L) (by rw[hl];exact List.mem_cons_self)
    rw[h]at this;cases this
 rw[k3,←k2,key]
 omega
theorem best_nil(hb:BOk b):zAj (wG b)=[]↔wG b=[]:=by
 rcases best_spec hb with ⟨h1,h2⟩|⟨h1,_⟩
 ·exact⟨fun _=>h1,fun _=>h2⟩
 ·constructor
  ·intro h
   have:=((zDn hb).1 h1).1.len
   have:=hb.pa
   rw[h]at*;simp at*;omega
  ·intro h;rw[h]at h1;cases h1
theorem ret27h(hi:Off is)(hb:BOk b){i:Nat}{p:Pl}(hp:b.players[i]? =some p){m:Nat}(hm:Least (noP b i) 501 m){lo hg:Int}(hk:0≤lo∧lo≤hg∧hg≤500):∃B,RetP Tryd.prog is orc 27 [(wg b i lo hg).u] (.tup [.lst .ro 1 (zF B),.int .i64 (if(m:Int)≤hg then 4 else 0)]):=by
 have hh:=held_ok hb hp hk
 have q:=ret27 (orc:=orc) hi hh
 refine⟨zAj (wG (wg b i lo hg)),?_⟩
 by_cases h:(m:Int)≤hg
 ·rw[if_pos ((best_nil hh).2 ((zFf hb hp hm hk).2 h))]at q
  rw[if_pos h];exact q
 ·rw[if_neg (fun h2=>h ((zFf hb hp hm hk).1 ((best_nil hh).1 h2)))]at q
  rw[if_neg h];exact q
theorem held_self{i:Nat}{p:Pl}(hp:b.players[i]? =some p):wg b i p.la p.lb=b:=by
 rw[zDY hp]
 have:b.players.set i ⟨p.la,p.lb,p.cat⟩=b.players:=by
  obtain⟨h1,h2⟩:=List.getElem?_eq_some_iff.1 hp
  have e:(⟨p.la,p.lb,p.cat⟩:Pl)=b.players[i]:=h2.symm
  rw[e,List.set_getElem_self]
 rw[this]
set_option maxHeartbeats 16000000 in
set_option maxRecDepth 20000 in
theorem ret11(hi:Off is)(b:Bk)(pl by_:Int)(r24:RetP Tryd.prog is orc 24 [] (.bool true)):RetP Tryd.prog is orc 11 [b.u,.int .i64 pl,.int .i64 by_] (.bool true):=by
 have q38:=ret38 (orc:=orc) hi b
 refine yS body11 pure11 (hi 11 (by decide)) rfl rfl (fun u hu=>?_) (.inl (.bool _ _)) ?_
 ·simp only[List.mem_cons,List.not_mem_nil,or_false]at hu
  rcases hu with rfl|rfl|rfl
  ·exact yq b 4
  ·exact .int _ _ _
  ·exact .int _ _ _
 cases hv:zDb b with
 |false=>
  rw[hv]at q38
  refine kQ (yB rfl rfl (zB rfl (zA ?_)))
  refine zN [(1,.int .i64 pl),(2,.int .i64 by_),(3,U.box 0 0)] ([SB.box [.int .i64 (Bk.parts b),.int .i64 (Bk.size b),.lst .ro 1 (zF (Bk.beats b)),.int .i64 (Bk.start b),.int .i64 (Bk.fin b),.int .i64 (Bk.tlo b),.int .i64 (Bk.thi b),.int .i64 (Bk.slo b),.int .i64 (Bk.shi b),.int .i64 (Bk.notice b),.lst .ro 3 (plsU (Bk.players b))]]) (.cons rfl (.cons rfl (.cons rfl (.nil rfl)))) rfl fun fr=>?_
  refine k_seq (kQ (zM rfl rfl rfl sh27 rfl (zO rfl (q38) (.lrefl _) (wJ rfl rfl (zA (k_cT rfl rfl ?_))))))
  refine kQ (zO rfl (r24) (.lrefl _) (zB rfl (zA (za ?_))))
  refine⟨.inr rfl,_,.cons _ _ _ _ (.tmp 6) .nil,?_⟩
  exact .refl _
 |true=>
  rw[hv]at q38
  have h:=(zDa b).1 hv
  have hpn:=h.pn
  have qa:=ret46 (orc:=orc) hi pl b.players.length (by omega)
  have ha:=turnI_b (n:=pl) (b:=b.players.length) (by omega)
  obtain⟨i,hi1⟩:∃i:Nat,zFR pl b.players.length=i:=⟨(zFR pl b.players.length).toNat,by omega⟩
  rw[hi1]at qa ha
  obtain⟨p,hp⟩:∃p,b.players[i]? =some p:=⟨b.players[i]'(by omega),List.getElem?_eq_getElem (by omega)⟩
  have hpo:=pl_ok h hp
  obtain⟨m,hm⟩:=least_ex (noP b i) 501 (fun x y a c d=>noP_mono h hp x y a c d)
  have hml:=hm.le
  have q31:=ret31 (orc:=orc) hi h hp hm
  by_cases h0:m=0
  ·rw[if_pos h0,if_pos h0]at q31
   obtain⟨B,q27⟩:=ret27h (orc:=orc) hi h hp hm (lo:=0) (hg:=0) (by omega)
   rw[if_pos (by omega)]at q27
   refine kQ (yB rfl rfl (zB rfl (zA ?_)))
   refine zN [(1,.int .i64 pl),(2,.int .i64 by_),(3,U.box 0 0)] ([SB.box [.int .i64 (Bk.parts b),.int .i64 (Bk.size b),.lst .ro 1 (zF (Bk.beats b)),.int .i64 (Bk.start b),.int .i64 (Bk.fin b),.int .i64 (Bk.tlo b),.int .i64 (Bk.thi b),.int .i64 (Bk.slo b),.int .i64 (Bk.shi b),.int .i64 (Bk.notice b),.lst .ro 3 (plsU (Bk.players b))]]) (.cons rfl (.cons rfl (.cons rfl (.nil rfl)))) rfl fun fr=>?_
   refine k_seq (kQ (zM rfl rfl rfl sh27 rfl (zO rfl (q38) (.lrefl _) (wJ rfl rfl (zA (k_cF rfl rfl ?_))))))
   refine zW (kQ (zC rfl (zE rfl rfl yZ (zG rfl rfl rfl sh25 rfl (yy rfl ty25 rfl (List.length_map _) ?_)))))
   refine zO rfl (qa) (.lrefl _) (zB rfl (zA (kQ (zM rfl rfl rfl sh27 rfl (zC rfl (zO rfl (q31) (.lrefl _) (zC rfl (zQ rfl rfl rfl ?_))))))))
   refine zQ rfl rfl rfl (zB rfl (zB rfl (zA ?_)))
   refine zN [(2,.int .i64 by_),(3,U.box 0 0),(7,.int .i64 ↑i),(8,.int .i64 0),(9,.int .i64 4)] ([SB.box [.int .i64 (Bk.parts b),.int .i64 (Bk.size b),.lst .ro 1 (zF (Bk.beats b)),.int .i64 (Bk.start b),.int .i64 (Bk.fin b),.int .i64 (Bk.tlo b),.int .i64 (Bk.thi b),.int .i64 (Bk.slo b),.int .i64 (Bk.shi b),.int .i64 (Bk.notice b),.lst .ro 3 (plsU (Bk.players b))]]) (.c4 rfl rfl rfl rfl (.cons rfl (.nil rfl))) rfl fun fr=>?_
   refine k_seq (kQ (zC rfl (zBH rfl rfl rfl (zA (k_cT rfl rfl ?_)))))
   refine k_seq (wL [.read true,.plain,.read false,.plain,.plain,.plain,.plain,.plain,.plain,.plain] (by kernel_rfl) (by kernel_rfl) (by kernel_rfl) ?_)
   refine yI rfl (zM rfl rfl rfl sh27 rfl (zA rfl)) ?_
   refine zD (zC rfl (zA rfl)) (wj rfl (ret48 hi 0 0) (wE _ _) (.lrefl _) ?_)
   (refine zAT rfl (wpc51 hi h hp 0 0) (.lrefl _) (fun u st1 hM=>?_);obtain⟨rfl,rfl⟩:=hM)
   refine zD (zO rfl (q27) (.lrefl _) (zA rfl)) ?_
   refine zD (zC rfl (zA rfl)) (zD (zQ rfl rfl rfl (zA rfl)) ?_)
   refine zD (zQ rfl rfl rfl (zA rfl)) ?_
   refine zD (zB rfl (zA rfl)) ?_
   refine zD (zB rfl (zA rfl)) ?_
   refine zAu ?_
   refine zN [(8,.int .i64 0),(9,.int .i64 4),(11,.int .i64 4)] ([SB.box [.int .i64 (Bk.parts b),.int .i64 (Bk.size b),.lst .ro 1 (zF (Bk.beats b)),.int .i64 (Bk.start b),.int .i64 (Bk.fin b),.int .i64 (Bk.tlo b),.int .i64 (Bk.thi b),.int .i64 (Bk.slo b),.int .i64 (Bk.shi b),.int .i64 (Bk.notice b),.lst .ro 3 (plsU (Bk.players b))]]) (.cons rfl (.cons rfl (.cons rfl (.nil rfl)))) rfl fun fr=>?_
   refine kQ (zC rfl (wu rfl rfl rfl (zC rfl (o_gD rfl rfl rfl rfl rfl (zC rfl (o_gD rfl rfl rfl rfl rfl (wu rfl rfl rfl (zZ rfl rfl rfl ?_))))))))
   refine zC rfl (o_gD rfl rfl rfl rfl rfl (zC rfl (o_gD rfl rfl rfl rfl rfl (zC rfl ?_))))
   refine zS [(50,U.bool (decide ((0:Int)=(0:Int)))),(51,.int .i64 4),(52,.int .i64 4)] [] ([SB.box [.int .i64 (Bk.parts b),.int .i64 (Bk.size b),.lst .ro 1 (zF (Bk.beats b)),.int .i64 (Bk.start b),.int .i64 (Bk.fin b),.int .i64 (Bk.tlo b),.int .i64 (Bk.thi b),.int .i64 (Bk.slo b),.int .i64 (Bk.shi b),.int .i64 (Bk.notice b),.lst .ro 3 (plsU (Bk.players b))]]) (.cons rfl (.cons rfl (.cons rfl (.nil rfl)))) rfl rfl fun fr=>?_
   refine o_gD rfl rfl rfl rfl rfl ?_
   refine zS [(50,U.bool (decide ((0:Int)=(0:Int)))),(51,.int .i64 4),(52,.int .i64 4)] [] ([SB.box [.int .i64 (Bk.parts b),.int .i64 (Bk.size b),.lst .ro 1 (zF (Bk.beats b)),.int .i64 (Bk.start b),.int .i64 (Bk.fin b),.int .i64 (Bk.tlo b),.int .i64 (Bk.thi b),.int .i64 (Bk.slo b),.int .i64 (Bk.shi b),.int .i64 (Bk.notice b),.lst .ro 3 (plsU (Bk.players b))]]) (.cons rfl (.cons rfl (.cons rfl (.nil rfl)))) rfl rfl fun fr=>?_
   refine wu rfl rfl rfl (zZ rfl rfl rfl ?_)
   refine zC rfl (o_gD rfl rfl rfl rfl rfl (zO rfl (r24) (.lrefl _) (zZ rfl rfl rfl ?_)))
   refine zB rfl (zA (za ?_))
   refine⟨.inr rfl,_,.cons _ _ _ _ (.tmp 6) .nil,?_⟩
   exact .refl _
  ·rw[if_neg h0,if_neg h0]at q31
   obtain⟨n,hn⟩:∃n:Nat,m=n+1:=⟨m - 1,by omega⟩
   rw[show(m:Int) - 1=n by omega]at q31
   have qb:=ret46 (orc:=orc) hi by_ ((n:Int)+1) (by omega)
   have hb2:=turnI_b (n:=by_) (b:=(n:Int)+1) (by omega)
   generalize zFR by_ ((n:Int)+1)=k at*
   have q52:=ret52 (orc:=orc) hi (n:Int) 0 500
   rw[zGA.2 (show(0:Int)≤n∧(n:Int)≤500 by omega)]at q52
   obtain⟨B1,q1⟩:=ret27h (orc:=orc) hi h hp hm (lo:=k) (hg:=n) (by omega)
   obtain⟨B2,q2⟩:=ret27h (orc:=orc) hi h hp hm (lo:=k) (hg:=k) (by omega)
   obtain⟨B3,q3⟩:=ret27h (orc:=orc) hi h hp hm (lo:=p.la) (hg:=p.lb) (by omega)
   rw[held_self hp]at q3
   rw[if_neg (by omega)]at q1 q2
   by_cases h5:(n:Int)=500
   ·have h6:p.lb≤(n:Int):=by omega
    rw[if_neg (by omega)]at q3
    have k108:decide (decide ((0:Int)=0)≠decide (p.lb≤(n:Int)))=false:=by rw[decide_eq_true h6];rfl
    refine kQ (yB rfl rfl (zB rfl (zA ?_)))
    refine zN [(1,.int .i64 pl),(2,.int .i64 by_),(3,U.box 0 0)] ([SB.box [.int .i64 (Bk.parts b),.int .i64 (Bk.size b),.lst .ro 1 (zF (Bk.beats b)),.int .i64 (Bk.start b),.int .i64 (Bk.fin b),.int .i64 (Bk.tlo b),.int .i64 (Bk.thi b),.int .i64 (Bk.slo b),.int .i64 (Bk.shi b),.int .i64 (Bk.notice b),.lst .ro 3 (plsU (Bk.players b))]]) (.cons rfl (.cons rfl (.cons rfl (.nil rfl)))) rfl fun fr=>?_
    refine k_seq (kQ (zM rfl rfl rfl sh27 rfl (zO rfl (q38) (.lrefl _) (wJ rfl rfl (zA (k_cF rfl rfl ?_))))))
    refine zW (kQ (zC rfl (zE rfl rfl yZ (zG rfl rfl rfl sh25 rfl (yy rfl ty25 rfl (List.length_map _) ?_)))))
    refine zO rfl (qa) (.lrefl _) (zB rfl (zA (kQ (zM rfl rfl rfl sh27 rfl (zC rfl (zO rfl (q31) (.lrefl _) (zC rfl (zQ rfl rfl rfl ?_))))))))
    refine zQ rfl rfl rfl (zB rfl (zB rfl (zA ?_)))
    refine zN [(2,.int .i64 by_),(3,U.box 0 0),(7,.int .i64 ↑i),(8,.int .i64 ↑n),(9,.int .i64 0)] ([SB.box [.int .i64 (Bk.parts b),.int .i64 (Bk.size b),.lst .ro 1 (zF (Bk.beats b)),.int .i64 (Bk.start b),.int .i64 (Bk.fin b),.int .i64 (Bk.tlo b),.int .i64 (Bk.thi b),.int .i64 (Bk.slo b),.int .i64 (Bk.shi b),.int .i64 (Bk.notice b),.lst .ro 3 (plsU (Bk.players b))]]) (.c4 rfl rfl rfl rfl (.cons rfl (.nil rfl))) rfl fun fr=>?_
    refine k_seq (kQ (zC rfl (zBH rfl rfl rfl (zA (k_cF rfl rfl ?_)))))
    refine zW (k_seq (kQ (zC rfl (zO rfl (q52) (.lrefl _) (wJ rfl rfl (zA (k_cF rfl rfl ?_)))))))
    refine zW (kQ (zC rfl (zC rfl ?_)))
    refine we rfl rfl rfl (by unfold I64;omega) (zO rfl (qb) (.lrefl _) (zB rfl (zA (k_seq (wL [.read true,.plain,.plain,.plain,.read false,.plain,.plain,.plain,.plain,.plain,.plain,.plain] (by kernel_rfl) (by kernel_rfl) (by kernel_rfl) ?_)))))
    refine yI rfl (zM rfl rfl rfl sh27 rfl (zA rfl)) ?_
    refine zD (zC rfl (zA rfl)) (zD (zC rfl (zA rfl)) (zD (zC rfl (zA rfl)) (wj rfl (ret48 hi k n) (wE _ _) (.lrefl _) ?_)))
    (refine zAT rfl (wpc51 hi h hp k n) (.lrefl _) (fun u st1 hM=>?_);obtain⟨rfl,rfl⟩:=hM)
    refine zD (zO rfl (q1) (.lrefl _) (zA rfl)) ?_
    refine zD (zC rfl (zA rfl)) (zD (zQ rfl rfl rfl (zA rfl)) ?_)
    refine zD (zQ rfl rfl rfl (zA rfl)) ?_
    refine zD (zB rfl (zA rfl)) ?_
    refine zD (zB rfl (zA rfl)) ?_
    refine zAu ?_
    refine zN [(3,U.box 0 0),(7,.int .i64 ↑i),(8,.int .i64 ↑n),(12,.int .i64 k),(14,.int .i64 0)] ([SB.box [.int .i64 (Bk.parts b),.int .i64 (Bk.size b),.lst .ro 1 (zF (Bk.beats b)),.int .i64 (Bk.start b),.int .i64 (Bk.fin b),.int .i64 (Bk.tlo b),.int .i64 (Bk.thi b),.int .i64 (Bk.slo b),.int .i64 (Bk.shi b),.int .i64 (Bk.notice b),.lst .ro 3 (plsU (Bk.players b))]]) (.c4 rfl rfl rfl rfl (.cons rfl (.nil rfl))) rfl fun fr=>?_
    refine k_seq (wL [.read true,.plain,.plain,.plain,.read false,.plain,.plain,.plain,.plain,.plain,.plain,.plain] (by kernel_rfl) (by kernel_rfl) (by kernel_rfl) ?_)
    refine yI rfl (zM rfl rfl rfl sh27 rfl (zA rfl)) ?_
    refine zD (zC rfl (zA rfl)) (zD (zC rfl (zA rfl)) (zD (zC rfl (zA rfl)) (wj rfl (ret48 hi k k) (wE _ _) (.lrefl _) ?_)))
    (refine zAT rfl (wpc51 hi h hp k k) (.lrefl _) (fun u st1 hM=>?_);obtain⟨rfl,rfl⟩:=hM)
    refine zD (zO rfl (q2) (.lrefl _) (zA rfl)) ?_
    refine zD (zC rfl (zA rfl)) (zD (zQ rfl rfl rfl (zA rfl)) ?_)
    refine zD (zQ rfl rfl rfl (zA rfl)) ?_
    refine zD (zB rfl (zA rfl)) ?_
    refine zD (zB rfl (zA rfl)) ?_
    refine zAu ?_
    refine kQ (zM rfl rfl rfl sh27 rfl (zO rfl (q3) (.lrefl _) (zC rfl (zQ rfl rfl rfl (zQ rfl rfl rfl (zB rfl (zB rfl (zA ?_))))))))
    refine zN [(3,U.box 0 0),(7,.int .i64 ↑i),(8,.int .i64 ↑n),(12,.int .i64 k),(14,.int .i64 0),(16,.int .i64 0),(18,.int .i64 0)] ([SB.box [.int .i64 (Bk.parts b),.int .i64 (Bk.size b),.lst .ro 1 (zF (Bk.beats b)),.int .i64 (Bk.start b),.int .i64 (Bk.fin b),.int .i64 (Bk.tlo b),.int .i64 (Bk.thi b),.int .i64 (Bk.slo b),.int .i64 (Bk.shi b),.int .i64 (Bk.notice b),.lst .ro 3 (plsU (Bk.players b))]]) (.c4 rfl rfl rfl rfl (.cons rfl (.cons rfl (.cons rfl (.nil rfl))))) rfl fun fr=>?_
    refine k_seq (kQ (zC rfl (zBH rfl rfl rfl (zC rfl (o_gD rfl rfl rfl rfl rfl (zC rfl (o_gD rfl rfl rfl rfl rfl (zBH rfl rfl rfl ?_))))))))
    refine zR rfl rfl rfl ?_
    refine zC rfl (o_gD rfl rfl rfl rfl rfl (zC rfl (o_gD rfl rfl rfl rfl rfl (wu rfl rfl rfl ?_))))
    refine zS [(3,U.box 0 0),(7,.int .i64 ↑i),(8,.int .i64 ↑n),(12,.int .i64 k),(96,U.bool (decide ((0:Int)≠(0:Int)))),(98,U.bool (decide ((0:Int)=(0:Int))))] [] ([SB.box [.int .i64 (Bk.parts b),.int .i64 (Bk.size b),.lst .ro 1 (zF (Bk.beats b)),.int .i64 (Bk.start b),.int .i64 (Bk.fin b),.int .i64 (Bk.tlo b),.int .i64 (Bk.thi b),.int .i64 (Bk.slo b),.int .i64 (Bk.shi b),.int .i64 (Bk.notice b),.lst .ro 3 (plsU (Bk.players b))]]) (.c4 rfl rfl rfl rfl (.cons rfl (.cons rfl (.nil rfl)))) rfl rfl fun fr=>?_
    refine o_gD rfl rfl rfl rfl rfl ?_
    refine zS [(3,U.box 0 0),(7,.int .i64 ↑i),(8,.int .i64 ↑n),(12,.int .i64 k),(96,U.bool (decide ((0:Int)≠(0:Int)))),(98,U.bool (decide ((0:Int)=(0:Int))))] [] ([SB.box [.int .i64 (Bk.parts b),.int .i64 (Bk.size b),.lst .ro 1 (zF (Bk.beats b)),.int .i64 (Bk.start b),.int .i64 (Bk.fin b),.int .i64 (Bk.tlo b),.int .i64 (Bk.thi b),.int .i64 (Bk.slo b),.int .i64 (Bk.shi b),.int .i64 (Bk.notice b),.lst .ro 3 (plsU (Bk.players b))]]) (.c4 rfl rfl rfl rfl (.cons rfl (.cons rfl (.nil rfl)))) rfl rfl fun fr=>?_
    refine zE rfl rfl yZ (o_gD rfl rfl rfl rfl rfl (zG rfl rfl rfl sh25 rfl (o_gD rfl rfl rfl rfl rfl (zC rfl (o_gD rfl rfl rfl rfl rfl (zAa (u:=(p).u) rfl ty25 rfl rfl (Int.natCast_nonneg _) (by simp[hp]) cl68 ?_))))))
    refine o_gD rfl rfl rfl rfl rfl (zBw rfl rfl zCA ?_)
    refine o_gD rfl rfl rfl rfl rfl (zBw rfl rfl zAP ?_)
    refine o_gD rfl rfl rfl rfl rfl (yk rfl rfl sh3 rfl ?_)
    refine o_gD rfl rfl rfl rfl rfl (zC rfl (o_gD rfl rfl rfl rfl rfl (zCU rfl rfl rfl ?_)))
    refine zS [(3,U.box 0 0),(7,.int .i64 ↑i),(8,.int .i64 ↑n),(12,.int .i64 k),(96,U.bool (decide ((0:Int)≠(0:Int)))),(98,U.bool (decide ((0:Int)=(0:Int)))),(107,U.bool (decide (Pl.lb p≤ ↑n)))] [] ([SB.box [.int .i64 (Bk.parts b),.int .i64 (Bk.size b),.lst .ro 1 (zF (Bk.beats b)),.int .i64 (Bk.start b),.int .i64 (Bk.fin b),.int .i64 (Bk.tlo b),.int .i64 (Bk.thi b),.int .i64 (Bk.slo b),.int .i64 (Bk.shi b),.int .i64 (Bk.notice b),.lst .ro 3 (plsU (Bk.players b))]]) (.c4 rfl rfl rfl rfl (.cons rfl (.cons rfl (.cons rfl (.nil rfl))))) rfl rfl fun fr=>?_
    refine o_gD rfl rfl rfl rfl rfl ?_
    refine zS [(3,U.box 0 0),(7,.int .i64 ↑i),(8,.int .i64 ↑n),(12,.int .i64 k),(96,U.bool (decide ((0:Int)≠(0:Int)))),(98,U.bool (decide ((0:Int)=(0:Int)))),(107,U.bool (decide (Pl.lb p≤ ↑n)))] [] ([SB.box [.int .i64 (Bk.parts b),.int .i64 (Bk.size b),.lst .ro 1 (zF (Bk.beats b)),.int .i64 (Bk.start b),.int .i64 (Bk.fin b),.int .i64 (Bk.tlo b),.int .i64 (Bk.thi b),.int .i64 (Bk.slo b),.int .i64 (Bk.shi b),.int .i64 (Bk.notice b),.lst .ro 3 (plsU (Bk.players b))]]) (.c4 rfl rfl rfl rfl (.cons rfl (.cons rfl (.cons rfl (.nil rfl))))) rfl rfl fun fr=>?_
    refine o_neqB rfl ty4 rfl rfl ?_
    refine zR rfl rfl rfl ?_
    refine zA ?_
    refine zN [(3,U.box 0 0),(7,.int .i64 ↑i),(8,.int .i64 ↑n),(12,.int .i64 k),(109,U.bool (decide (decide ((0:Int)=(0:Int))≠decide (Pl.lb p≤ ↑n))))] ([SB.box [.int .i64 (Bk.parts b),.int .i64 (Bk.size b),.lst .ro 1 (zF (Bk.beats b)),.int .i64 (Bk.start b),.int .i64 (Bk.fin b),.int .i64 (Bk.tlo b),.int .i64 (Bk.thi b),.int .i64 (Bk.slo b),.int .i64 (Bk.shi b),.int .i64 (Bk.notice b),.lst .ro 3 (plsU (Bk.players b))]]) (.c4 rfl rfl rfl rfl (.cons rfl (.nil rfl))) rfl fun fr=>?_
    refine k_cF rfl (by assumption) (zW (k_seq (kQ (zC rfl (wu rfl rfl rfl (zA (k_cT rfl (decide_eq_true (by omega)) (kQ ?_))))))))
    refine zO rfl (r24) (.lrefl _) (zB rfl (zA (za ?_)))
    refine⟨.inr rfl,_,.cons _ _ _ _ (.tmp 6) .nil,?_⟩
    exact .refl _
   ·obtain⟨B4,q4⟩:=ret27h (orc:=orc) hi h hp hm (lo:=k) (hg:=(n:Int)+1) (by omega)
    rw[if_pos (by omega)]at q4
    by_cases h6:p.lb≤(n:Int)
    ·rw[if_neg (by omega)]at q3
     have k108:decide (decide ((0:Int)=0)≠decide (p.lb≤(n:Int)))=false:=by rw[decide_eq_true h6];rfl
     refine kQ (yB rfl rfl (zB rfl (zA ?_)))
     refine zN [(1,.int .i64 pl),(2,.int .i64 by_),(3,U.box 0 0)] ([SB.box [.int .i64 (Bk.parts b),.int .i64 (Bk.size b),.lst .ro 1 (zF (Bk.beats b)),.int .i64 (Bk.start b),.int .i64 (Bk.fin b),.int .i64 (Bk.tlo b),.int .i64 (Bk.thi b),.int .i64 (Bk.slo b),.int .i64 (Bk.shi b),.int .i64 (Bk.notice b),.lst .ro 3 (plsU (Bk.players b))]]) (.cons rfl (.cons rfl (.cons rfl (.nil rfl)))) rfl fun fr=>?_
     refine k_seq (kQ (zM rfl rfl rfl sh27 rfl (zO rfl (q38) (.lrefl _) (wJ rfl rfl (zA (k_cF rfl rfl ?_))))))
     refine zW (kQ (zC rfl (zE rfl rfl yZ (zG rfl rfl rfl sh25 rfl (yy rfl ty25 rfl (List.length_map _) ?_)))))
     refine zO rfl (qa) (.lrefl _) (zB rfl (zA (kQ (zM rfl rfl rfl sh27 rfl (zC rfl (zO rfl (q31) (.lrefl _) (zC rfl (zQ rfl rfl rfl ?_))))))))
     refine zQ rfl rfl rfl (zB rfl (zB rfl (zA ?_)))
     refine zN [(2,.int .i64 by_),(3,U.box 0 0),(7,.int .i64 ↑i),(8,.int .i64 ↑n),(9,.int .i64 0)] ([SB.box [.int .i64 (Bk.parts b),.int .i64 (Bk.size b),.lst .ro 1 (zF (Bk.beats b)),.int .i64 (Bk.start b),.int .i64 (Bk.fin b),.int .i64 (Bk.tlo b),.int .i64 (Bk.thi b),.int .i64 (Bk.slo b),.int .i64 (Bk.shi b),.int .i64 (Bk.notice b),.lst .ro 3 (plsU (Bk.players b))]]) (.c4 rfl rfl rfl rfl (.cons rfl (.nil rfl))) rfl fun fr=>?_
     refine k_seq (kQ (zC rfl (zBH rfl rfl rfl (zA (k_cF rfl rfl ?_)))))
     refine zW (k_seq (kQ (zC rfl (zO rfl (q52) (.lrefl _) (wJ rfl rfl (zA (k_cF rfl rfl ?_)))))))
     refine zW (kQ (zC rfl (zC rfl ?_)))
     refine we rfl rfl rfl (by unfold I64;omega) (zO rfl (qb) (.lrefl _) (zB rfl (zA (k_seq (wL [.read true,.plain,.plain,.plain,.read false,.plain,.plain,.plain,.plain,.plain,.plain,.plain] (by kernel_rfl) (by kernel_rfl) (by kernel_rfl) ?_)))))
     refine yI rfl (zM rfl rfl rfl sh27 rfl (zA rfl)) ?_
     refine zD (zC rfl (zA rfl)) (zD (zC rfl (zA rfl)) (zD (zC rfl (zA rfl)) (wj rfl (ret48 hi k n) (wE _ _) (.lrefl _) ?_)))
     (refine zAT rfl (wpc51 hi h hp k n) (.lrefl _) (fun u st1 hM=>?_);obtain⟨rfl,rfl⟩:=hM)
     refine zD (zO rfl (q1) (.lrefl _) (zA rfl)) ?_
     refine zD (zC rfl (zA rfl)) (zD (zQ rfl rfl rfl (zA rfl)) ?_)
     refine zD (zQ rfl rfl rfl (zA rfl)) ?_
     refine zD (zB rfl (zA rfl)) ?_
     refine zD (zB rfl (zA rfl)) ?_
     refine zAu ?_
     refine zN [(3,U.box 0 0),(7,.int .i64 ↑i),(8,.int .i64 ↑n),(12,.int .i64 k),(14,.int .i64 0)] ([SB.box [.int .i64 (Bk.parts b),.int .i64 (Bk.size b),.lst .ro 1 (zF (Bk.beats b)),.int .i64 (Bk.start b),.int .i64 (Bk.fin b),.int .i64 (Bk.tlo b),.int .i64 (Bk.thi b),.int .i64 (Bk.slo b),.int .i64 (Bk.shi b),.int .i64 (Bk.notice b),.lst .ro 3 (plsU (Bk.players b))]]) (.c4 rfl rfl rfl rfl (.cons rfl (.nil rfl))) rfl fun fr=>?_
     refine k_seq (wL [.read true,.plain,.plain,.plain,.read false,.plain,.plain,.plain,.plain,.plain,.plain,.plain] (by kernel_rfl) (by kernel_rfl) (by kernel_rfl) ?_)
     refine yI rfl (zM rfl rfl rfl sh27 rfl (zA rfl)) ?_
     refine zD (zC rfl (zA rfl)) (zD (zC rfl (zA rfl)) (zD (zC rfl (zA rfl)) (wj rfl (ret48 hi k k) (wE _ _) (.lrefl _) ?_)))
     (refine zAT rfl (wpc51 hi h hp k k) (.lrefl _) (fun u st1 hM=>?_);obtain⟨rfl,rfl⟩:=hM)
     refine zD (zO rfl (q2) (.lrefl _) (zA rfl)) ?_
     refine zD (zC rfl (zA rfl)) (zD (zQ rfl rfl rfl (zA rfl)) ?_)
     refine zD (zQ rfl rfl rfl (zA rfl)) ?_
     refine zD (zB rfl (zA rfl)) ?_
     refine zD (zB rfl (zA rfl)) ?_
     refine zAu ?_
     refine kQ (zM rfl rfl rfl sh27 rfl (zO rfl (q3) (.lrefl _) (zC rfl (zQ rfl rfl rfl (zQ rfl rfl rfl (zB rfl (zB rfl (zA ?_))))))))
     refine zN [(3,U.box 0 0),(7,.int .i64 ↑i),(8,.int .i64 ↑n),(12,.int .i64 k),(14,.int .i64 0),(16,.int .i64 0),(18,.int .i64 0)] ([SB.box [.int .i64 (Bk.parts b),.int .i64 (Bk.size b),.lst .ro 1 (zF (Bk.beats b)),.int .i64 (Bk.start b),.int .i64 (Bk.fin b),.int .i64 (Bk.tlo b),.int .i64 (Bk.thi b),.int .i64 (Bk.slo b),.int .i64 (Bk.shi b),.int .i64 (Bk.notice b),.lst .ro 3 (plsU (Bk.players b))]]) (.c4 rfl rfl rfl rfl (.cons rfl (.cons rfl (.cons rfl (.nil rfl))))) rfl fun fr=>?_
     refine k_seq (kQ (zC rfl (zBH rfl rfl rfl (zC rfl (o_gD rfl rfl rfl rfl rfl (zC rfl (o_gD rfl rfl rfl rfl rfl (zBH rfl rfl rfl ?_))))))))
     refine zR rfl rfl rfl ?_
     refine zC rfl (o_gD rfl rfl rfl rfl rfl (zC rfl (o_gD rfl rfl rfl rfl rfl (wu rfl rfl rfl ?_))))
     refine zS [(3,U.box 0 0),(7,.int .i64 ↑i),(8,.int .i64 ↑n),(12,.int .i64 k),(96,U.bool (decide ((0:Int)≠(0:Int)))),(98,U.bool (decide ((0:Int)=(0:Int))))] [] ([SB.box [.int .i64 (Bk.parts b),.int .i64 (Bk.size b),.lst .ro 1 (zF (Bk.beats b)),.int .i64 (Bk.start b),.int .i64 (Bk.fin b),.int .i64 (Bk.tlo b),.int .i64 (Bk.thi b),.int .i64 (Bk.slo b),.int .i64 (Bk.shi b),.int .i64 (Bk.notice b),.lst .ro 3 (plsU (Bk.players b))]]) (.c4 rfl rfl rfl rfl (.cons rfl (.cons rfl (.nil rfl)))) rfl rfl fun fr=>?_
     refine o_gD rfl rfl rfl rfl rfl ?_
     refine zS [(3,U.box 0 0),(7,.int .i64 ↑i),(8,.int .i64 ↑n),(12,.int .i64 k),(96,U.bool (decide ((0:Int)≠(0:Int)))),(98,U.bool (decide ((0:Int)=(0:Int))))] [] ([SB.box [.int .i64 (Bk.parts b),.int .i64 (Bk.size b),.lst .ro 1 (zF (Bk.beats b)),.int .i64 (Bk.start b),.int .i64 (Bk.fin b),.int .i64 (Bk.tlo b),.int .i64 (Bk.thi b),.int .i64 (Bk.slo b),.int .i64 (Bk.shi b),.int .i64 (Bk.notice b),.lst .ro 3 (plsU (Bk.players b))]]) (.c4 rfl rfl rfl rfl (.cons rfl (.cons rfl (.nil rfl)))) rfl rfl fun fr=>?_
     refine zE rfl rfl yZ (o_gD rfl rfl rfl rfl rfl (zG rfl rfl rfl sh25 rfl (o_gD rfl rfl rfl rfl rfl (zC rfl (o_gD rfl rfl rfl rfl rfl (zAa (u:=(p).u) rfl ty25 rfl rfl (Int.natCast_nonneg _) (by simp[hp]) cl68 ?_))))))
     refine o_gD rfl rfl rfl rfl rfl (zBw rfl rfl zCA ?_)
     refine o_gD rfl rfl rfl rfl rfl (zBw rfl rfl zAP ?_)
     refine o_gD rfl rfl rfl rfl rfl (yk rfl rfl sh3 rfl ?_)
     refine o_gD rfl rfl rfl rfl rfl (zC rfl (o_gD rfl rfl rfl rfl rfl (zCU rfl rfl rfl ?_)))
     refine zS [(3,U.box 0 0),(7,.int .i64 ↑i),(8,.int .i64 ↑n),(12,.int .i64 k),(96,U.bool (decide ((0:Int)≠(0:Int)))),(98,U.bool (decide ((0:Int)=(0:Int)))),(107,U.bool (decide (Pl.lb p≤ ↑n)))] [] ([SB.box [.int .i64 (Bk.parts b),.int .i64 (Bk.size b),.lst .ro 1 (zF (Bk.beats b)),.int .i64 (Bk.start b),.int .i64 (Bk.fin b),.int .i64 (Bk.tlo b),.int .i64 (Bk.thi b),.int .i64 (Bk.slo b),.int .i64 (Bk.shi b),.int .i64 (Bk.notice b),.lst .ro 3 (plsU (Bk.players b))]]) (.c4 rfl rfl rfl rfl (.cons rfl (.cons rfl (.cons rfl (.nil rfl))))) rfl rfl fun fr=>?_
     refine o_gD rfl rfl rfl rfl rfl ?_
     refine zS [(3,U.box 0 0),(7,.int .i64 ↑i),(8,.int .i64 ↑n),(12,.int .i64 k),(96,U.bool (decide ((0:Int)≠(0:Int)))),(98,U.bool (decide ((0:Int)=(0:Int)))),(107,U.bool (decide (Pl.lb p≤ ↑n)))] [] ([SB.box [.int .i64 (Bk.parts b),.int .i64 (Bk.size b),.lst .ro 1 (zF (Bk.beats b)),.int .i64 (Bk.start b),.int .i64 (Bk.fin b),.int .i64 (Bk.tlo b),.int .i64 (Bk.thi b),.int .i64 (Bk.slo b),.int .i64 (Bk.shi b),.int .i64 (Bk.notice b),.lst .ro 3 (plsU (Bk.players b))]]) (.c4 rfl rfl rfl rfl (.cons rfl (.cons rfl (.cons rfl (.nil rfl))))) rfl rfl fun fr=>?_
     refine o_neqB rfl ty4 rfl rfl ?_
     refine zR rfl rfl rfl ?_
     refine zA ?_
     refine zN [(3,U.box 0 0),(7,.int .i64 ↑i),(8,.int .i64 ↑n),(12,.int .i64 k),(109,U.bool (decide (decide ((0:Int)=(0:Int))≠decide (Pl.lb p≤ ↑n))))] ([SB.box [.int .i64 (Bk.parts b),.int .i64 (Bk.size b),.lst .ro 1 (zF (Bk.beats b)),.int .i64 (Bk.start b),.int .i64 (Bk.fin b),.int .i64 (Bk.tlo b),.int .i64 (Bk.thi b),.int .i64 (Bk.slo b),.int .i64 (Bk.shi b),.int .i64 (Bk.notice b),.lst .ro 3 (plsU (Bk.players b))]]) (.c4 rfl rfl rfl rfl (.cons rfl (.nil rfl))) rfl fun fr=>?_
     refine k_cF rfl (by assumption) (zW (k_seq (kQ (zC rfl (wu rfl rfl rfl (zA (k_cF rfl (decide_eq_false (by omega)) (zW ?_))))))))
     refine k_seq (wL [.read true,.plain,.plain,.plain,.plain,.read false,.plain,.plain,.plain,.plain,.plain,.plain] (by kernel_rfl) (by kernel_rfl) (by kernel_rfl) ?_)
     refine yI rfl (zM rfl rfl rfl sh27 rfl (zA rfl)) ?_
     refine zD (zC rfl (zA rfl)) (zD (zC rfl (zA rfl)) (zD (zC rfl (zA rfl)) ?_))
     refine zD (we rfl rfl rfl (by unfold I64;omega) (zA rfl)) ?_
     refine wj rfl (ret48 hi k ((n:Int)+1)) (wE _ _) (.lrefl _) ?_
     (refine zAT rfl (wpc51 hi h hp k ((n:Int)+1)) (.lrefl _) (fun u st1 hM=>?_);obtain⟨rfl,rfl⟩:=hM)
     refine zD (zO rfl (q4) (.lrefl _) (zA rfl)) ?_
     refine zD (zC rfl (zA rfl)) (zD (zQ rfl rfl rfl (zA rfl)) ?_)
     refine zD (zQ rfl rfl rfl (zA rfl)) ?_
     refine zD (zB rfl (zA rfl)) ?_
     refine zAu ?_
     refine zN [(14,.int .i64 4)] ([SB.box [.int .i64 (Bk.parts b),.int .i64 (Bk.size b),.lst .ro 1 (zF (Bk.beats b)),.int .i64 (Bk.start b),.int .i64 (Bk.fin b),.int .i64 (Bk.tlo b),.int .i64 (Bk.thi b),.int .i64 (Bk.slo b),.int .i64 (Bk.shi b),.int .i64 (Bk.notice b),.lst .ro 3 (plsU (Bk.players b))]]) (.cons rfl (.nil rfl)) rfl fun fr=>?_
     refine kQ (zC rfl (wu rfl rfl rfl (zC rfl (o_gD rfl rfl rfl rfl rfl (zO rfl (r24) (.lrefl _) (zZ rfl rfl rfl ?_))))))
     refine zB rfl (zA (za ?_))
     refine⟨.inr rfl,_,.cons _ _ _ _ (.tmp 6) .nil,?_⟩
     exact .refl _
    ·rw[if_pos (by omega)]at q3
     have k108:decide (decide ((4:Int)=0)≠decide (p.lb≤(n:Int)))=false:=by rw[decide_eq_false h6];rfl
     refine kQ (yB rfl rfl (zB rfl (zA ?_)))
     refine zN [(1,.int .i64 pl),(2,.int .i64 by_),(3,U.box 0 0)] ([SB.box [.int .i64 (Bk.parts b),.int .i64 (Bk.size b),.lst .ro 1 (zF (Bk.beats b)),.int .i64 (Bk.start b),.int .i64 (Bk.fin b),.int .i64 (Bk.tlo b),.int .i64 (Bk.thi b),.int .i64 (Bk.slo b),.int .i64 (Bk.shi b),.int .i64 (Bk.notice b),.lst .ro 3 (plsU (Bk.players b))]]) (.cons rfl (.cons rfl (.cons rfl (.nil rfl)))) rfl fun fr=>?_
     refine k_seq (kQ (zM rfl rfl rfl sh27 rfl (zO rfl (q38) (.lrefl _) (wJ rfl rfl (zA (k_cF rfl rfl ?_))))))
     refine zW (kQ (zC rfl (zE rfl rfl yZ (zG rfl rfl rfl sh25 rfl (yy rfl ty25 rfl (List.length_map _) ?_)))))
     refine zO rfl (qa) (.lrefl _) (zB rfl (zA (kQ (zM rfl rfl rfl sh27 rfl (zC rfl (zO rfl (q31) (.lrefl _) (zC rfl (zQ rfl rfl rfl ?_))))))))
     refine zQ rfl rfl rfl (zB rfl (zB rfl (zA ?_)))
     refine zN [(2,.int .i64 by_),(3,U.box 0 0),(7,.int .i64 ↑i),(8,.int .i64 ↑n),(9,.int .i64 0)] ([SB.box [.int .i64 (Bk.parts b),.int .i64 (Bk.size b),.lst .ro 1 (zF (Bk.beats b)),.int .i64 (Bk.start b),.int .i64 (Bk.fin b),.int .i64 (Bk.tlo b),.int .i64 (Bk.thi b),.int .i64 (Bk.slo b),.int .i64 (Bk.shi b),.int .i64 (Bk.notice b),.lst .ro 3 (plsU (Bk.players b))]]) (.c4 rfl rfl rfl rfl (.cons rfl (.nil rfl))) rfl fun fr=>?_
     refine k_seq (kQ (zC rfl (zBH rfl rfl rfl (zA (k_cF rfl rfl ?_)))))
     refine zW (k_seq (kQ (zC rfl (zO rfl (q52) (.lrefl _) (wJ rfl rfl (zA (k_cF rfl rfl ?_)))))))
     refine zW (kQ (zC rfl (zC rfl ?_)))
     refine we rfl rfl rfl (by unfold I64;omega) (zO rfl (qb) (.lrefl _) (zB rfl (zA (k_seq (wL [.read true,.plain,.plain,.plain,.read false,.plain,.plain,.plain,.plain,.plain,.plain,.plain] (by kernel_rfl) (by kernel_rfl) (by kernel_rfl) ?_)))))
     refine yI rfl (zM rfl rfl rfl sh27 rfl (zA rfl)) ?_
     refine zD (zC rfl (zA rfl)) (zD (zC rfl (zA rfl)) (zD (zC rfl (zA rfl)) (wj rfl (ret48 hi k n) (wE _ _) (.lrefl _) ?_)))
     (refine zAT rfl (wpc51 hi h hp k n) (.lrefl _) (fun u st1 hM=>?_);obtain⟨rfl,rfl⟩:=hM)
     refine zD (zO rfl (q1) (.lrefl _) (zA rfl)) ?_
     refine zD (zC rfl (zA rfl)) (zD (zQ rfl rfl rfl (zA rfl)) ?_)
     refine zD (zQ rfl rfl rfl (zA rfl)) ?_
     refine zD (zB rfl (zA rfl)) ?_
     refine zD (zB rfl (zA rfl)) ?_
     refine zAu ?_
     refine zN [(3,U.box 0 0),(7,.int .i64 ↑i),(8,.int .i64 ↑n),(12,.int .i64 k),(14,.int .i64 0)] ([SB.box [.int .i64 (Bk.parts b),.int .i64 (Bk.size b),.lst .ro 1 (zF (Bk.beats b)),.int .i64 (Bk.start b),.int .i64 (Bk.fin b),.int .i64 (Bk.tlo b),.int .i64 (Bk.thi b),.int .i64 (Bk.slo b),.int .i64 (Bk.shi b),.int .i64 (Bk.notice b),.lst .ro 3 (plsU (Bk.players b))]]) (.c4 rfl rfl rfl rfl (.cons rfl (.nil rfl))) rfl fun fr=>?_
     refine k_seq (wL [.read true,.plain,.plain,.plain,.read false,.plain,.plain,.plain,.plain,.plain,.plain,.plain] (by kernel_rfl) (by kernel_rfl) (by kernel_rfl) ?_)
     refine yI rfl (zM rfl rfl rfl sh27 rfl (zA rfl)) ?_
     refine zD (zC rfl (zA rfl)) (zD (zC rfl (zA rfl)) (zD (zC rfl (zA rfl)) (wj rfl (ret48 hi k k) (wE _ _) (.lrefl _) ?_)))
     (refine zAT rfl (wpc51 hi h hp k k) (.lrefl _) (fun u st1 hM=>?_);obtain⟨rfl,rfl⟩:=hM)
     refine zD (zO rfl (q2) (.lrefl _) (zA rfl)) ?_
     refine zD (zC rfl (zA rfl)) (zD (zQ rfl rfl rfl (zA rfl)) ?_)
     refine zD (zQ rfl rfl rfl (zA rfl)) ?_
     refine zD (zB rfl (zA rfl)) ?_
     refine zD (zB rfl (zA rfl)) ?_
     refine zAu ?_
     refine kQ (zM rfl rfl rfl sh27 rfl (zO rfl (q3) (.lrefl _) (zC rfl (zQ rfl rfl rfl (zQ rfl rfl rfl (zB rfl (zB rfl (zA ?_))))))))
     refine zN [(3,U.box 0 0),(7,.int .i64 ↑i),(8,.int .i64 ↑n),(12,.int .i64 k),(14,.int .i64 0),(16,.int .i64 0),(18,.int .i64 4)] ([SB.box [.int .i64 (Bk.parts b),.int .i64 (Bk.size b),.lst .ro 1 (zF (Bk.beats b)),.int .i64 (Bk.start b),.int .i64 (Bk.fin b),.int .i64 (Bk.tlo b),.int .i64 (Bk.thi b),.int .i64 (Bk.slo b),.int .i64 (Bk.shi b),.int .i64 (Bk.notice b),.lst .ro 3 (plsU (Bk.players b))]]) (.c4 rfl rfl rfl rfl (.cons rfl (.cons rfl (.cons rfl (.nil rfl))))) rfl fun fr=>?_
     refine k_seq (kQ (zC rfl (zBH rfl rfl rfl (zC rfl (o_gD rfl rfl rfl rfl rfl (zC rfl (o_gD rfl rfl rfl rfl rfl (zBH rfl rfl rfl ?_))))))))
     refine zR rfl rfl rfl ?_
     refine zC rfl (o_gD rfl rfl rfl rfl rfl (zC rfl (o_gD rfl rfl rfl rfl rfl (wu rfl rfl rfl ?_))))
     refine zS [(3,U.box 0 0),(7,.int .i64 ↑i),(8,.int .i64 ↑n),(12,.int .i64 k),(96,U.bool (decide ((0:Int)≠(0:Int)))),(98,U.bool (decide ((4:Int)=(0:Int))))] [] ([SB.box [.int .i64 (Bk.parts b),.int .i64 (Bk.size b),.lst .ro 1 (zF (Bk.beats b)),.int .i64 (Bk.start b),.int .i64 (Bk.fin b),.int .i64 (Bk.tlo b),.int .i64 (Bk.thi b),.int .i64 (Bk.slo b),.int .i64 (Bk.shi b),.int .i64 (Bk.notice b),.lst .ro 3 (plsU (Bk.players b))]]) (.c4 rfl rfl rfl rfl (.cons rfl (.cons rfl (.nil rfl)))) rfl rfl fun fr=>?_
     refine o_gD rfl rfl rfl rfl rfl ?_
     refine zS [(3,U.box 0 0),(7,.int .i64 ↑i),(8,.int .i64 ↑n),(12,.int .i64 k),(96,U.bool (decide ((0:Int)≠(0:Int)))),(98,U.bool (decide ((4:Int)=(0:Int))))] [] ([SB.box [.int .i64 (Bk.parts b),.int .i64 (Bk.size b),.lst .ro 1 (zF (Bk.beats b)),.int .i64 (Bk.start b),.int .i64 (Bk.fin b),.int .i64 (Bk.tlo b),.int .i64 (Bk.thi b),.int .i64 (Bk.slo b),.int .i64 (Bk.shi b),.int .i64 (Bk.notice b),.lst .ro 3 (plsU (Bk.players b))]]) (.c4 rfl rfl rfl rfl (.cons rfl (.cons rfl (.nil rfl)))) rfl rfl fun fr=>?_
     refine zE rfl rfl yZ (o_gD rfl rfl rfl rfl rfl (zG rfl rfl rfl sh25 rfl (o_gD rfl rfl rfl rfl rfl (zC rfl (o_gD rfl rfl rfl rfl rfl (zAa (u:=(p).u) rfl ty25 rfl rfl (Int.natCast_nonneg _) (by simp[hp]) cl68 ?_))))))
     refine o_gD rfl rfl rfl rfl rfl (zBw rfl rfl zCA ?_)
     refine o_gD rfl rfl rfl rfl rfl (zBw rfl rfl zAP ?_)
     refine o_gD rfl rfl rfl rfl rfl (yk rfl rfl sh3 rfl ?_)
     refine o_gD rfl rfl rfl rfl rfl (zC rfl (o_gD rfl rfl rfl rfl rfl (zCU rfl rfl rfl ?_)))
     refine zS [(3,U.box 0 0),(7,.int .i64 ↑i),(8,.int .i64 ↑n),(12,.int .i64 k),(96,U.bool (decide ((0:Int)≠(0:Int)))),(98,U.bool (decide ((4:Int)=(0:Int)))),(107,U.bool (decide (Pl.lb p≤ ↑n)))] [] ([SB.box [.int .i64 (Bk.parts b),.int .i64 (Bk.size b),.lst .ro 1 (zF (Bk.beats b)),.int .i64 (Bk.start b),.int .i64 (Bk.fin b),.int .i64 (Bk.tlo b),.int .i64 (Bk.thi b),.int .i64 (Bk.slo b),.int .i64 (Bk.shi b),.int .i64 (Bk.notice b),.lst .ro 3 (plsU (Bk.players b))]]) (.c4 rfl rfl rfl rfl (.cons rfl (.cons rfl (.cons rfl (.nil rfl))))) rfl rfl fun fr=>?_
     refine o_gD rfl rfl rfl rfl rfl ?_
     refine zS [(3,U.box 0 0),(7,.int .i64 ↑i),(8,.int .i64 ↑n),(12,.int .i64 k),(96,U.bool (decide ((0:Int)≠(0:Int)))),(98,U.bool (decide ((4:Int)=(0:Int)))),(107,U.bool (decide (Pl.lb p≤ ↑n)))] [] ([SB.box [.int .i64 (Bk.parts b),.int .i64 (Bk.size b),.lst .ro 1 (zF (Bk.beats b)),.int .i64 (Bk.start b),.int .i64 (Bk.fin b),.int .i64 (Bk.tlo b),.int .i64 (Bk.thi b),.int .i64 (Bk.slo b),.int .i64 (Bk.shi b),.int .i64 (Bk.notice b),.lst .ro 3 (plsU (Bk.players b))]]) (.c4 rfl rfl rfl rfl (.cons rfl (.cons rfl (.cons rfl (.nil rfl))))) rfl rfl fun fr=>?_
     refine o_neqB rfl ty4 rfl rfl ?_
     refine zR rfl rfl rfl ?_
     refine zA ?_
     refine zN [(3,U.box 0 0),(7,.int .i64 ↑i),(8,.int .i64 ↑n),(12,.int .i64 k),(109,U.bool (decide (decide ((4:Int)=(0:Int))≠decide (Pl.lb p≤ ↑n))))] ([SB.box [.int .i64 (Bk.parts b),.int .i64 (Bk.size b),.lst .ro 1 (zF (Bk.beats b)),.int .i64 (Bk.start b),.int .i64 (Bk.fin b),.int .i64 (Bk.tlo b),.int .i64 (Bk.thi b),.int .i64 (Bk.slo b),.int .i64 (Bk.shi b),.int .i64 (Bk.notice b),.lst .ro 3 (plsU (Bk.players b))]]) (.c4 rfl rfl rfl rfl (.cons rfl (.nil rfl))) rfl fun fr=>?_
     refine k_cF rfl (by assumption) (zW (k_seq (kQ (zC rfl (wu rfl rfl rfl (zA (k_cF rfl (decide_eq_false (by omega)) (zW ?_))))))))
     refine k_seq (wL [.read true,.plain,.plain,.plain,.plain,.read false,.plain,.plain,.plain,.plain,.plain,.plain] (by kernel_rfl) (by kernel_rfl) (by kernel_rfl) ?_)
     refine yI rfl (zM rfl rfl rfl sh27 rfl (zA rfl)) ?_
     refine zD (zC rfl (zA rfl)) (zD (zC rfl (zA rfl)) (zD (zC rfl (zA rfl)) ?_))
     refine zD (we rfl rfl rfl (by unfold I64;omega) (zA rfl)) ?_
     refine wj rfl (ret48 hi k ((n:Int)+1)) (wE _ _) (.lrefl _) ?_
     (refine zAT rfl (wpc51 hi h hp k ((n:Int)+1)) (.lrefl _) (fun u st1 hM=>?_);obtain⟨rfl,rfl⟩:=hM)
     refine zD (zO rfl (q4) (.lrefl _) (zA rfl)) ?_
     refine zD (zC rfl (zA rfl)) (zD (zQ rfl rfl rfl (zA rfl)) ?_)
     refine zD (zQ rfl rfl rfl (zA rfl)) ?_
     refine zD (zB rfl (zA rfl)) ?_
     refine zAu ?_
     refine zN [(14,.int .i64 4)] ([SB.box [.int .i64 (Bk.parts b),.int .i64 (Bk.size b),.lst .ro 1 (zF (Bk.beats b)),.int .i64 (Bk.start b),.int .i64 (Bk.fin b),.int .i64 (Bk.tlo b),.int .i64 (Bk.thi b),.int .i64 (Bk.slo b),.int .i64 (Bk.shi b),.int .i64 (Bk.notice b),.lst .ro 3 (plsU (Bk.players b))]]) (.cons rfl (.nil rfl)) rfl fun fr=>?_
     refine kQ (zC rfl (wu rfl rfl rfl (zC rfl (o_gD rfl rfl rfl rfl rfl (zO rfl (r24) (.lrefl _) (zZ rfl rfl rfl ?_))))))
     refine zB rfl (zA (za ?_))
     refine⟨.inr rfl,_,.cons _ _ _ _ (.tmp 6) .nil,?_⟩
     exact .refl _
end
section
variable {is:FuncId→Bool}{orc:Known}
theorem zEB{P:Program}{t:TypeId}(n:Nat)(h:(match P.underlying t with|some (.struct fs)=>Nat.beq fs.size n|_=>false)=true):∃fs,P.underlying t=some (.struct fs):=by
 cases hu:P.underlying t with
 |none=>rw[hu]at h;cases h
 |some ty=>rw[hu]at h;cases ty<;>first|exact⟨_,rfl⟩|cases h
theorem u3:Tryd.prog.underlying 3=some (.int .i64):=by kernel_rfl
theorem u22:Tryd.prog.underlying 22=some (.slice 3):=by kernel_rfl
theorem u66:Tryd.prog.underlying 66=some (.slice 24):=by kernel_rfl
theorem u25:Tryd.prog.underlying 25=some (.slice 68):=by kernel_rfl
def fts(P:Program)(t:TypeId):List TypeId:=match P.underlying t with|some (.struct fs)=>fs.toList.map (·.type)|_=>[]
theorem f27:fts Tryd.prog 27=[3,3,22,3,3,24,24,3,25]:=by kernel_rfl
theorem f24:fts Tryd.prog 24=[3,3]:=by kernel_rfl
theorem f68:fts Tryd.prog 68=[24,66]:=by kernel_rfl
theorem clq24:Program.cellsOf Tryd.prog 24=2:=by kernel_rfl
theorem clq68:Program.cellsOf Tryd.prog 68=3:=by kernel_rfl
theorem clq3:Program.cellsOf Tryd.prog 3=1:=by kernel_rfl
theorem zBr{cs:List U}(h:Shp Tryd.prog 3 cs):∃n:Int,cs=[.int .i64 n]:=by
 cases h with
 |int _ k n hu _=>rw[u3]at hu;cases hu;exact⟨n,rfl⟩
 |bool _ _ hu=>rw[u3]at hu;cases hu
 |str _ _ hu=>rw[u3]at hu;cases hu
 |slice _ _ _ hu=>rw[u3]at hu;cases hu
 |struct _ _ _ hu=>rw[u3]at hu;cases hu
 |array _ _ _ _ hu=>rw[u3]at hu;cases hu
theorem zEG{P:Program}{t:TypeId}{cs:List U}(h:Shp P t cs)(hne:fts P t≠[]):∃fs:List Field,fs.map (·.type)=fts P t∧ShpF P fs cs:=by
 have no:∀{ty},P.underlying t=some ty→(∀fs,ty≠.struct fs)→False:=fun hu hn=>hne (by unfold fts;rw[hu];split<;>simp_all)
 cases h with
 |struct _ fs _ hu hf=>exact⟨fs.toList,by unfold fts;rw[hu],hf⟩
 |int _ k n hu _=>exact(no hu (by intro fs h;cases h)).elim
 |bool _ _ hu=>exact(no hu (by intro fs h;cases h)).elim
 |str _ _ hu=>exact(no hu (by intro fs h;cases h)).elim
 |slice _ _ _ hu=>exact(no hu (by intro fs h;cases h)).elim
 |array _ _ _ _ hu=>exact(no hu (by intro fs h;cases h)).elim
theorem yl{P:Program}{fs:List Field}{t:TypeId}{ts:List TypeId}{cs:List U}(h:ShpF P fs cs)(e:fs.map (·.type)=t::ts):∃gs xs ys,cs=xs++ys∧Shp P t xs∧ShpF P gs ys∧gs.map (·.type)=ts:=by
 cases h with
 |nil=>cases e
 |cons f fs xs ys h1 h2=>
  simp only[List.map_cons,List.cons.injEq]at e
  obtain⟨rfl,rfl⟩:=e
  exact⟨fs,xs,ys,rfl,h1,h2,rfl⟩
theorem shpF_nil{P:Program}{fs:List Field}{cs:List U}(h:ShpF P fs cs)(e:fs.map (·.type)=[]):cs=[]:=by
 cases h with
 |nil=>rfl
 |cons=>cases e
theorem zEz{cs:List U}(h:Shp Tryd.prog 24 cs):∃a b:Int,cs=[.int .i64 a,.int .i64 b]:=by
 obtain⟨fs,e,hf⟩:=zEG h (by rw[f24];simp)
 rw[f24]at e
 obtain⟨g1,a1,b1,rfl,k1,r1,e1⟩:=yl hf e
 obtain⟨g2,a2,b2,rfl,k2,r2,e2⟩:=yl r1 e1
 obtain rfl:=shpF_nil r2 e2
 obtain⟨x,rfl⟩:=zBr k1
 obtain⟨y,rfl⟩:=zBr k2
 exact⟨x,y,rfl⟩
theorem shpL_map{P:Program}{e:TypeId}{α:Type}{f:α→List U}{css:List (List U)}(h:ShpL P e css)(k:∀cs,Shp P e cs→∃q,cs=f q):∃l:List α,css=l.map f:=by
 induction css with
 |nil=>exact⟨[],rfl⟩
 |cons cs css ih=>
  cases h with
  |cons _ _ _ h1 h2=>
   obtain⟨q,rfl⟩:=k _ h1
   obtain⟨l,rfl⟩:=ih h2
   exact⟨q::l,rfl⟩
theorem zFX{P:Program}{t e:TypeId}{cs:List U}(hu:P.underlying t=some (.slice e))(h:Shp P t cs):∃css,ShpL P e css∧cs=[.lst .ro (P.cellsOf e) (css.map (eU P e))]:=by
 cases h with
 |slice _ e' css hu' hl=>rw[hu]at hu';cases hu';exact⟨css,hl,rfl⟩
 |int _ k n hu' _=>rw[hu]at hu';cases hu'
 |bool _ _ hu'=>rw[hu]at hu';cases hu'
 |str _ _ hu'=>rw[hu]at hu';cases hu'
 |struct _ _ _ hu'=>rw[hu]at hu';cases hu'
 |array _ _ _ _ hu'=>rw[hu]at hu';cases hu'
theorem eu68:∀cs,eU Tryd.prog 68 cs=.agg cs:=by
 obtain⟨fs,h⟩:=zEB (P:=Tryd.prog) (t:=68) 2 (by kernel_rfl)
 intro cs;unfold eU;rw[h]
theorem eu24:∀cs,eU Tryd.prog 24 cs=.agg cs:=by
 obtain⟨fs,h⟩:=zEB (P:=Tryd.prog) (t:=24) 2 (by kernel_rfl)
 intro cs;unfold eU;rw[h]
theorem eu3:∀cs,eU Tryd.prog 3 cs=cs.headD .junk:=by
 intro cs;unfold eU;rw[u3]
theorem map_ints{F:List U→U}(he:∀cs,F cs=cs.headD .junk)(l:List Int):(l.map fun n:Int=>[U.int .i64 n]).map F=zF l:=by
 rw[List.map_map]
 exact List.map_congr_left fun q _=>he _
theorem shp_ints{cs:List U}(h:Shp Tryd.prog 22 cs):∃l:List Int,cs=[.lst .ro 1 (zF l)]:=by
 obtain⟨css,hl,rfl⟩:=zFX u22 h
 obtain⟨l,rfl⟩:=shpL_map (f:=fun n:Int=>[.int .i64 n]) hl fun cs hcs=>zBr hcs
 refine⟨l,?_⟩
 rw[clq3,map_ints eu3]
theorem map_twos{F:List U→U}(he:∀cs,F cs=.agg cs)(l:List Two):(l.map fun q:Two=>[U.int .i64 q.a,.int .i64 q.b]).map F=yR l:=by
 rw[List.map_map]
 exact List.map_congr_left fun q _=>he _
theorem shp_spans{cs:List U}(h:Shp Tryd.prog 66 cs):∃l:List Two,cs=[.lst .ro 2 (yR l)]:=by
 obtain⟨css,hl,rfl⟩:=zFX u66 h
 obtain⟨l,rfl⟩:=shpL_map (f:=fun q:Two=>[.int .i64 q.a,.int .i64 q.b]) hl fun cs hcs=>by obtain⟨x,y,rfl⟩:=zEz hcs;exact⟨⟨x,y⟩,rfl⟩
 refine⟨l,?_⟩
 rw[clq24,map_twos eu24]
theorem shp_player{cs:List U}(h:Shp Tryd.prog 68 cs):∃p:Pl,cs=p.cs:=by
 obtain⟨fs,e,hf⟩:=zEG h (by rw[f68];simp)
 rw[f68]at e
 obtain⟨g1,a1,b1,rfl,k1,r1,e1⟩:=yl hf e
 obtain⟨g2,a2,b2,rfl,k2,r2,e2⟩:=yl r1 e1
 obtain rfl:=shpF_nil r2 e2
 obtain⟨x,y,rfl⟩:=zEz k1
 obtain⟨l,rfl⟩:=shp_spans k2
 exact⟨⟨x,y,l⟩,rfl⟩
theorem map_pls{F:List U→U}(he:∀cs,F cs=.agg cs)(l:List Pl):(l.map fun q:Pl=>q.cs).map F=plsU l:=by
 rw[List.map_map]
 exact List.map_congr_left fun q _=>he _
theorem shp_players{cs:List U}(h:Shp Tryd.prog 25 cs):∃l:List Pl,cs=[.lst .ro 3 (plsU l)]:=by
 obtain⟨css,hl,rfl⟩:=zFX u25 h
 obtain⟨l,rfl⟩:=shpL_map (f:=fun q:Pl=>q.cs) hl fun cs hcs=>shp_player hcs
 refine⟨l,?_⟩
 rw[clq68,map_pls eu68]
theorem shp_bk{cs:List U}(h:Shp Tryd.prog 27 cs):∃b:Bk,cs=b.cs:=by
 obtain⟨fs,e,hf⟩:=zEG h (by rw[f27];simp)
 rw[f27]at e
 obtain⟨g1,a1,b1,rfl,k1,r1,e1⟩:=yl hf e
 obtain⟨g2,a2,b2,rfl,k2,r2,e2⟩:=yl r1 e1
 obtain⟨g3,a3,b3,rfl,k3,r3,e3⟩:=yl r2 e2
 obtain⟨g4,a4,b4,rfl,k4,r4,e4⟩:=yl r3 e3
 obtain⟨g5,a5,b5,rfl,k5,r5,e5⟩:=yl r4 e4
 obtain⟨g6,a6,b6,rfl,k6,r6,e6⟩:=yl r5 e5
 obtain⟨g7,a7,b7,rfl,k7,r7,e7⟩:=yl r6 e6
 obtain⟨g8,a8,b8,rfl,k8,r8,e8⟩:=yl r7 e7
 obtain⟨g9,a9,b9,rfl,k9,r9,e9⟩:=yl r8 e8
 obtain rfl:=shpF_nil r9 e9
 obtain⟨parts,rfl⟩:=zBr k1
 obtain⟨size,rfl⟩:=zBr k2
 obtain⟨beats,rfl⟩:=shp_ints k3
 obtain⟨start,rfl⟩:=zBr k4
 obtain⟨fin,rfl⟩:=zBr k5
 obtain⟨tlo,thi,rfl⟩:=zEz k6
 obtain⟨slo,shi,rfl⟩:=zEz k7
 obtain⟨notice,rfl⟩:=zBr k8
 obtain⟨players,rfl⟩:=shp_players k9
 exact⟨⟨parts,size,beats,start,fin,tlo,thi,slo,shi,notice,players⟩,rfl⟩
theorem und27:∃fs,Tryd.prog.underlying 27=some (.struct fs):=zEB (P:=Tryd.prog) (t:=27) 9 (by kernel_rfl)
theorem arg_bk{u:U}(h:∃cs,u=.agg cs∧Shp Tryd.prog 27 cs):∃b:Bk,u=b.u:=by
 obtain⟨cs,rfl,h⟩:=h
 obtain⟨b,rfl⟩:=shp_bk h
 exact⟨b,rfl⟩
theorem arg_int{u:U}(h:Shp Tryd.prog 3 [u]):∃n:Int,u=.int .i64 n:=by
 obtain⟨n,e⟩:=zBr h
 cases e
 exact⟨n,rfl⟩
end
section
variable {is:FuncId→Bool}{orc:Known}
theorem ret11_all(hi:Off is)(r24:RetP Tryd.prog is orc 24 [] (.bool true)):∀us,ShpAs Tryd.prog [27,3,3] us→RetP Tryd.prog is orc 11 us (.bool true):=by
 intro us h
 cases h with
 |cons _ _ u us h1 h=>cases h with
 |cons _ _ v us h2 h=>cases h with
 |cons _ _ x us h3 h=>
 cases h
 obtain⟨fs,hu⟩:=und27
 unfold ShpA at h1 h2 h3
 rw[hu]at h1
 rw[u3]at h2 h3
 obtain⟨b,rfl⟩:=arg_bk h1
 obtain⟨l,rfl⟩:=arg_int h2
 obtain⟨m,rfl⟩:=arg_int h3
 exact ret11 hi b l m r24
end
end Go.Proofs.YtfbmlibilcjlgaaDoor.drumBound
