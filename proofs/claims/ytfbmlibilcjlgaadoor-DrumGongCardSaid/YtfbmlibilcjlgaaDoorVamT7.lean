import Derived.Test.YtfbmlibilcjlgaaDoorVamT6
set_option linter.unusedVariables false
set_option linter.unusedSimpArgs false
set_option linter.constructorNameAsVariable false
namespace Go.Proofs.YtfbmlibilcjlgaaDoor.drumGong
open Vam
variable {is:FuncId→Bool}{orc:Known}
noncomputable def b42:Code:=(Tryd.f42.body).getD .skip
theorem body42:bodyOf Tryd.prog 42=some (95,b42,[.tmp 8]):=by kernel_rfl
theorem pure42:pureFn Tryd.prog 42=true:=by kernel_rfl
def slD(b:Bk)(L bits:List Int)(i n:Nat):Int:=
 if n / b.size.toNat=0∨n % b.size.toNat≠0∨L[n / b.size.toNat]? =L[n / b.size.toNat - 1]? then 0 else zDo b.slo b.shi (nthI bits (n+i))
def caD(p:Pl)(x:Int)(bits:List Int)(i n:Nat):Int:=zDo ((p.cat[x.toNat]?).getD ⟨0,0⟩).a ((p.cat[x.toNat]?).getD ⟨0,0⟩).b (nthI bits (n+2*i+1))
def truI(b:Bk)(L bits:List Int)(p:Pl)(i:Nat):Nat→Int
 |0=>zDo p.la p.lb (nthI bits i)
 |n+1=>max 0 (truI b L bits p i n+slD b L bits i n - caD p ((L[n / b.size.toNat]?).getD 0) bits i n)
theorem sl_in{b:Bk}(hb:BOk b)(L bits:List Int)(i n:Nat):zDa b false L n≤slD b L bits i n∧slD b L bits i n≤zDa b true L n:=by
 have:=hb.sl
 unfold zDa slD
 split
 ·omega
 ·have:=zGD (nthI bits (n+i)) this.2.1
  show b.slo≤_∧_≤b.shi
  exact this
theorem ca_in{p:Pl}(h:p.cat.length=4∧∀c∈p.cat,0≤c.a∧c.a≤c.b∧c.b≤100){x:Int}(hx:0≤x∧x≤3)(bits:List Int)(i n:Nat):catI false p x≤caD p x bits i n∧caD p x bits i n≤catI true p x:=by
 have hm:=h.2 _ (List.getElem_mem (show x.toNat<p.cat.length by omega))
 unfold catI caD
 rw[List.getElem?_eq_getElem (show x.toNat<p.cat.length by omega),Option.getD_some]
 exact zGD _ hm.2.1
theorem rg_at{L:List Int}(hL:∀x∈L,0≤x∧x≤3)(q:Nat):0≤(L[q]?).getD 0∧(L[q]?).getD 0≤3:=by
 cases hq:L[q]? with
 |none=>exact⟨Int.le_refl _,by decide⟩
 |some q=>exact hL q (List.mem_of_getElem? hq)
theorem tru_in{b:Bk}(hb:BOk b){L:List Int}(hL:∀x∈L,0≤x∧x≤3)(bits:List Int){p:Pl}(hp:(0≤p.la∧p.la≤p.lb∧p.lb≤500)∧p.cat.length=4∧∀c∈p.cat,0≤c.a∧c.a≤c.b∧c.b≤100)(i n:Nat):aftI b false L p n≤truI b L bits p i n∧truI b L bits p i n≤aftI b true L p n:=by
 induction n with
 |zero=>exact zGD _ hp.1.2.1
 |succ n ih=>
  have e1:aftI b false L p (n+1)=max 0 (aftI b false L p n+zDa b false L n - catI true p ((L[n / b.size.toNat]?).getD 0)):=rfl
  have e2:aftI b true L p (n+1)=max 0 (aftI b true L p n+zDa b true L n - catI false p ((L[n / b.size.toNat]?).getD 0)):=rfl
  have e3:truI b L bits p i (n+1)=max 0 (truI b L bits p i n+slD b L bits i n - caD p ((L[n / b.size.toNat]?).getD 0) bits i n):=rfl
  have h1:=sl_in hb L bits i n
  have h2:=ca_in hp.2 (rg_at hL (n / b.size.toNat)) bits i n
  rw[e1,e2,e3]
  omega
def truL(b:Bk)(L bits:List Int)(p:Pl)(i n:Nat):List Int:=(List.range n).map (truI b L bits p i)
theorem truL_len(b:Bk)(L bits:List Int)(p:Pl)(i n:Nat):(truL b L bits p i n).length=n:=by simp[truL]
theorem truL_at{b:Bk}{L bits:List Int}{p:Pl}{i n k:Nat}(h:k<n):(truL b L bits p i n)[k]? =some (truI b L bits p i k):=by simp[truL,h]
theorem truL_succ(b:Bk)(L bits:List Int)(p:Pl)(i n:Nat):truL b L bits p i (n+1)=truL b L bits p i n++[truI b L bits p i n]:=by simp[truL,List.range_succ]
set_option maxHeartbeats 16000000 in
theorem ret42(hi:Off is){b:Bk}{L:List Int}(hb:BOk b)(h:POk b L)(bits:List Int){i:Nat}{p:Pl}(hp1:b.players[i]? =some p):RetP Tryd.prog is orc 42 [b.u,.lst .ro 1 (zE L),.int .i64 i,.lst .ro 1 (zE bits)] (.lst .ro 1 (zE (truL b L bits p i ((b.parts*b.size).toNat+1)))):=by
 refine zw body42 pure42 (hi 42 (by decide)) rfl rfl (fun u hu=>?_) (.inl (zh 6 .ro (fun h=>by cases h) 1 _)) ?_
 ·simp only[List.mem_cons,List.not_mem_nil,or_false]at hu
  rcases hu with rfl|rfl|rfl|rfl
  ·exact yT b 4
  ·exact zh 6 .ro (fun h=>by cases h) 1 L
  ·exact .int _ _ _
  ·exact zh 6 .ro (fun h=>by cases h) 1 bits
 have hil:=(List.getElem?_eq_some_iff.1 hp1).1
 have hpn:=hb.pn
 have hs:=hb.sz
 have hp:=hb.pa
 have hl:=h.len
 have hpo:=pl_ok hb hp1
 have hps:=zEt hb
 have hmp:=mul_ps hb
 have hsl:=hb.sl
 have hd0:=zGD (nthI bits i) hpo.1.2.1
 refine kQ (zx rfl rfl (zC rfl (zA ?_)))
 refine zL [(1,.lst .ro 1 (zE L)),(2,.int .i64 ↑i),(3,.lst .ro 1 (zE bits)),(4,U.box 0 0)] ([SB.box [.int .i64 (Bk.parts b),.int .i64 (Bk.size b),.lst .ro 1 (zE (Bk.beats b)),.int .i64 (Bk.start b),.int .i64 (Bk.fin b),.int .i64 (Bk.tlo b),.int .i64 (Bk.thi b),.int .i64 (Bk.slo b),.int .i64 (Bk.shi b),.int .i64 (Bk.notice b),.lst .ro 3 (plsU (Bk.players b))]]) (.c4 rfl rfl rfl rfl (.nil rfl)) rfl fun fr=>?_
 refine kQ (zF rfl rfl zAS (zG rfl rfl rfl sh25 rfl (zB rfl (wJ (u:=(p).u) rfl ty25 rfl rfl (Int.natCast_nonneg _) (by simp[hp1]) cl68 ?_))))
 refine wk rfl rfl sh68 rfl ?_
 refine zk rfl ze68 ?_
 refine zd rfl rfl sh68 rfl rfl rfl rfl rfl ?_
 refine zA ?_
 refine zL [(1,.lst .ro 1 (zE L)),(2,.int .i64 ↑i),(3,.lst .ro 1 (zE bits)),(4,U.box 0 0),(9,U.box 1 0)] ([SB.box [.int .i64 (Bk.parts b),.int .i64 (Bk.size b),.lst .ro 1 (zE (Bk.beats b)),.int .i64 (Bk.start b),.int .i64 (Bk.fin b),.int .i64 (Bk.tlo b),.int .i64 (Bk.thi b),.int .i64 (Bk.slo b),.int .i64 (Bk.shi b),.int .i64 (Bk.notice b),.lst .ro 3 (plsU (Bk.players b))],SB.box [.int .i64 (Pl.la p),.int .i64 (Pl.lb p),.lst .ro 2 (yd (Pl.cat p))]]) (.c4 rfl rfl rfl rfl (.cons rfl (.nil rfl))) rfl fun fr=>?_
 refine k_seq (yu [.plain,.read true,.plain,.plain,.read false,.plain,.plain] (by kernel_rfl) (by kernel_rfl) (by kernel_rfl) ?_)
 refine zD (zF rfl rfl zEN (zA rfl)) ?_
 refine zi rfl (zK rfl rfl rfl sh24 rfl (zA rfl)) ?_
 refine zD (zB rfl (zA rfl)) (zD (zB rfl (zA rfl)) (zAU rfl (ret53 hi bits i) (.int _ _) (.lrefl _) ?_))
 refine zD (zQ rfl (ret88 hi p.la p.lb (nthI bits i) (by omega) (by omega)) (.lrefl _) (zA rfl)) ?_
 refine zD (zC rfl (zA rfl)) ?_
 refine zAI ?_
 refine kQ (zB rfl (zCz (es:=[.int .i64 (zDo (Pl.la p) (Pl.lb p) (nthI bits i))]) rfl ty22 ze3 cl3 rfl rfl rfl rfl rfl rfl rfl rfl ?_))
 refine zC rfl (zA (k_seq (kQ (zC rfl (zA ?_)))))
 refine zL [(1,.lst .ro 1 (zE L)),(2,.int .i64 ↑i),(3,.lst .ro 1 (zE bits)),(4,U.box 0 0),(9,U.box 1 0),(10,.int .i64 (zDo (Pl.la p) (Pl.lb p) (nthI bits i))),(11,.lst .full 1 [.int .i64 (zDo (Pl.la p) (Pl.lb p) (nthI bits i))]),(12,.int .i64 0)] ([SB.box [.int .i64 (Bk.parts b),.int .i64 (Bk.size b),.lst .ro 1 (zE (Bk.beats b)),.int .i64 (Bk.start b),.int .i64 (Bk.fin b),.int .i64 (Bk.tlo b),.int .i64 (Bk.thi b),.int .i64 (Bk.slo b),.int .i64 (Bk.shi b),.int .i64 (Bk.notice b),.lst .ro 3 (plsU (Bk.players b))],SB.box [.int .i64 (Pl.la p),.int .i64 (Pl.lb p),.lst .ro 2 (yd (Pl.cat p))]]) (.c4 rfl rfl rfl rfl (.c4 rfl rfl rfl rfl (.nil rfl))) rfl fun fr=>?_
 refine zP ?_
 refine wD (fun kk s2=>∃(n:Nat) (kd:Kd),(kk:Int)+n=b.parts*b.size∧(kd=.full∨kd=.own)∧s2.st=[.box [.int .i64 b.parts,.int .i64 b.size,.lst .ro 1 (zE b.beats),.int .i64 b.start,.int .i64 b.fin,.int .i64 b.tlo,.int .i64 b.thi,.int .i64 b.slo,.int .i64 b.shi,.int .i64 b.notice,.lst .ro 3 (plsU b.players)],.box p.cs]∧Holds s2 [(1,.lst .ro 1 (zE L)),(2,.int .i64 i),(3,.lst .ro 1 (zE bits)),(4,.box 0 0),(9,.box 1 0),(10,.int .i64 (truI b L bits p i n)),(11,.lst kd 1 (zE (truL b L bits p i (n+1)))),(12,.int .i64 n)]) (fun kk s2 hI=>?_) (b.parts*b.size).toNat _ ⟨0,.full,by omega,.inl rfl,rfl,.c4 rfl rfl rfl rfl (.c4 rfl rfl rfl rfl (.nil rfl))⟩
 obtain⟨n,kd,hk,hkd,hst2,hs2⟩:=hI
 have hti:=tru_in hb h.rg bits hpo i n
 have hab:=aft_b hb true L h.rg hpo n
 have hab0:=aft_b hb false L h.rg hpo n
 have hlen:=truL_len b L bits p i (n+1)
 have hsu:=truL_succ b L bits p i (n+1)
 by_cases hin:(n:Int)<b.parts*b.size
 ·obtain⟨d1,d2⟩:=div_n hb n
  have hq:=part_lt hb hin
  obtain⟨x,hx,hxr⟩:=at_ok h hq
  have hs0:=sl_in hb L bits i n
  have hs1:=slip_b hb true L n
  have hs2':=slip_b hb false L n
  have etr:truI b L bits p i (n+1)=max 0 (truI b L bits p i n+slD b L bits i n - caD p x bits i n):=by
   show max 0 (_+_ - caD p ((L[n / b.size.toNat]?).getD 0) bits i n)=_
   rw[hx];rfl
  have hsD:slD b L bits i n=if n / b.size.toNat=0∨n % b.size.toNat≠0∨L[n / b.size.toNat]? =L[n / b.size.toNat - 1]? then 0 else zDo b.slo b.shi (nthI bits (n+i)):=rfl
  obtain⟨c,hc1⟩:∃c,p.cat[x.toNat]? =some c:=⟨p.cat[x.toNat]'(by omega),List.getElem?_eq_getElem (by omega)⟩
  have hcr:=hpo.2.2 c (List.mem_of_getElem? hc1)
  have eca:caD p x bits i n=zDo c.a c.b (nthI bits (n+2*i+1)):=by unfold caD;rw[hc1];rfl
  have hcd:=zGD (nthI bits (n+2*i+1)) hcr.2.1
  generalize truL b L bits p i (n+1)=A at*
  generalize slD b L bits i n=sl at*
  generalize n / b.size.toNat=q at*
  generalize n % b.size.toNat=r at*
  generalize truI b L bits p i n=now at*
  refine zL _ _ hs2 hst2 fun fr2=>?_
  refine k_seq (kQ (zB rfl (zF rfl rfl zAT (zG rfl rfl rfl sh3 rfl (zF rfl rfl yf (zG rfl rfl rfl sh3 rfl ?_))))))
  refine o_mul rfl rfl rfl (by unfold I64;omega) ?_
  refine zt rfl rfl rfl (zA (k_cT rfl (decide_eq_true (by omega)) (zR (k_seq (zP (kQ (zB rfl (zF rfl rfl yf ?_))))))))
  refine zG rfl rfl rfl sh3 rfl ?_
  refine o_quo rfl rfl rfl (by omega) (by unfold I64;omega) ?_
  refine zC rfl (zA ?_)
  refine zL [(1,.lst .ro 1 (zE L)),(2,.int .i64 ↑i),(3,.lst .ro 1 (zE bits)),(4,U.box 0 0),(9,U.box 1 0),(10,.int .i64 now),(11,U.lst kd 1 (zE A)),(12,.int .i64 ↑n),(13,.int .i64 (Int.tdiv (↑n) (Bk.size b)))] ([SB.box [.int .i64 (Bk.parts b),.int .i64 (Bk.size b),.lst .ro 1 (zE (Bk.beats b)),.int .i64 (Bk.start b),.int .i64 (Bk.fin b),.int .i64 (Bk.tlo b),.int .i64 (Bk.thi b),.int .i64 (Bk.slo b),.int .i64 (Bk.shi b),.int .i64 (Bk.notice b),.lst .ro 3 (plsU (Bk.players b))],SB.box (Pl.cs p)]) (.c4 rfl rfl rfl rfl (.c4 rfl rfl rfl rfl (.cons rfl (.nil rfl)))) rfl fun fr=>?_
  refine zL [(1,.lst .ro 1 (zE L)),(2,.int .i64 i),(3,.lst .ro 1 (zE bits)),(4,.box 0 0),(9,.box 1 0),(10,.int .i64 now),(11,.lst kd 1 (zE A)),(12,.int .i64 n),(13,.int .i64 q)] [.box [.int .i64 b.parts,.int .i64 b.size,.lst .ro 1 (zE b.beats),.int .i64 b.start,.int .i64 b.fin,.int .i64 b.tlo,.int .i64 b.thi,.int .i64 b.slo,.int .i64 b.shi,.int .i64 b.notice,.lst .ro 3 (plsU b.players)],.box p.cs] (.c4 rfl rfl rfl rfl (.c4 rfl rfl rfl rfl (.cons (by show U.int .i64 _=_;rw[d1]) (.nil rfl)))) rfl fun fr3=>?_
  refine k_cut (fun st=>st.st=[.box [.int .i64 b.parts,.int .i64 b.size,.lst .ro 1 (zE b.beats),.int .i64 b.start,.int .i64 b.fin,.int .i64 b.tlo,.int .i64 b.thi,.int .i64 b.slo,.int .i64 b.shi,.int .i64 b.notice,.lst .ro 3 (plsU b.players)],.box p.cs]∧Holds st [(1,.lst .ro 1 (zE L)),(2,.int .i64 i),(3,.lst .ro 1 (zE bits)),(4,.box 0 0),(9,.box 1 0),(10,.int .i64 (now+sl)),(11,.lst kd 1 (zE A)),(12,.int .i64 n),(13,.int .i64 q)]) ?_ (fun st hM=>?_)
  ·by_cases c1:r≠0
   ·rw[if_pos (.inr (.inl c1))]at hsD
    refine k_seq (yu [.plain,.plain,.plain,.plain,.plain,.plain,.plain,.plain,.plain,.plain,.plain,.plain,.plain,.read true,.plain,.plain,.plain,.plain,.read true,.plain,.plain] (by kernel_rfl) (by kernel_rfl) (by kernel_rfl) ?_)
    refine zD (zB rfl (zA rfl)) (zD (zF rfl rfl yf (zA rfl)) ?_)
    refine zD (zG rfl rfl rfl sh3 rfl (zA rfl)) ?_
    refine zD (zGM rfl rfl rfl (by omega) (zA rfl)) ?_
    refine zD (we rfl rfl rfl (zA rfl)) ?_
    refine zD (zB rfl (zA rfl)) (d_gS rfl rfl rfl rfl (decide_eq_false (by omega)) ?_)
    refine d_gS rfl rfl rfl rfl (decide_eq_false (by omega)) ?_
    refine zD (zO rfl rfl (decide_eq_false (by omega)) (zA rfl)) ?_
    refine yY [(1,.lst .ro 1 (zE L)),(2,.int .i64 ↑i),(3,.lst .ro 1 (zE bits)),(4,U.box 0 0),(9,U.box 1 0),(10,.int .i64 now),(11,U.lst kd 1 (zE A)),(12,.int .i64 ↑n),(13,.int .i64 ↑q),(46,U.tup []),(47,U.tup []),(48,.bool false)] [] ([SB.box [.int .i64 (Bk.parts b),.int .i64 (Bk.size b),.lst .ro 1 (zE (Bk.beats b)),.int .i64 (Bk.start b),.int .i64 (Bk.fin b),.int .i64 (Bk.tlo b),.int .i64 (Bk.thi b),.int .i64 (Bk.slo b),.int .i64 (Bk.shi b),.int .i64 (Bk.notice b),.lst .ro 3 (plsU (Bk.players b))],SB.box (Pl.cs p)]) (.c4 rfl rfl rfl rfl (.c4 rfl rfl rfl rfl (.c4 rfl rfl rfl rfl (.nil rfl)))) rfl rfl fun fr=>?_
    refine zD (zB rfl (zA rfl)) (d_gS rfl rfl rfl rfl rfl (d_gS rfl rfl rfl rfl rfl (d_gS rfl rfl rfl rfl rfl (d_gS rfl rfl rfl rfl rfl (d_gS rfl rfl rfl rfl rfl (d_gS rfl rfl rfl rfl rfl (d_gS rfl rfl rfl rfl rfl (d_gS rfl rfl rfl rfl rfl ?_))))))))
    refine yY [(1,.lst .ro 1 (zE L)),(2,.int .i64 ↑i),(3,.lst .ro 1 (zE bits)),(4,U.box 0 0),(9,U.box 1 0),(10,.int .i64 now),(11,U.lst kd 1 (zE A)),(12,.int .i64 ↑n),(13,.int .i64 ↑q),(46,U.tup []),(47,U.tup []),(49,.bool false),(50,U.tup []),(51,U.tup []),(52,U.tup []),(53,U.tup []),(54,U.tup []),(55,U.tup []),(56,U.tup []),(57,U.tup [])] [] ([SB.box [.int .i64 (Bk.parts b),.int .i64 (Bk.size b),.lst .ro 1 (zE (Bk.beats b)),.int .i64 (Bk.start b),.int .i64 (Bk.fin b),.int .i64 (Bk.tlo b),.int .i64 (Bk.thi b),.int .i64 (Bk.slo b),.int .i64 (Bk.shi b),.int .i64 (Bk.notice b),.lst .ro 3 (plsU (Bk.players b))],SB.box (Pl.cs p)]) (.c4 rfl rfl rfl rfl (.c4 rfl rfl rfl rfl (.c4 rfl rfl rfl rfl (.c4 rfl rfl rfl rfl (.c4 rfl rfl rfl rfl (.nil rfl)))))) rfl rfl fun fr=>?_
    refine d_gS rfl rfl rfl rfl rfl (d_gS rfl rfl rfl rfl rfl (zD (zO rfl rfl rfl (zA rfl)) ?_))
    refine zAI ?_
    refine zL [(1,.lst .ro 1 (zE L)),(2,.int .i64 ↑i),(3,.lst .ro 1 (zE bits)),(4,U.box 0 0),(9,U.box 1 0),(10,.int .i64 now),(11,U.lst kd 1 (zE A)),(12,.int .i64 ↑n),(13,.int .i64 ↑q),(46,U.tup []),(47,U.tup []),(50,U.tup []),(51,U.tup []),(52,U.tup []),(53,U.tup []),(54,U.tup []),(55,U.tup []),(56,U.tup []),(57,U.tup []),(58,U.tup []),(59,U.tup []),(60,.bool false)] ([SB.box [.int .i64 (Bk.parts b),.int .i64 (Bk.size b),.lst .ro 1 (zE (Bk.beats b)),.int .i64 (Bk.start b),.int .i64 (Bk.fin b),.int .i64 (Bk.tlo b),.int .i64 (Bk.thi b),.int .i64 (Bk.slo b),.int .i64 (Bk.shi b),.int .i64 (Bk.notice b),.lst .ro 3 (plsU (Bk.players b))],SB.box (Pl.cs p)]) (.c4 rfl rfl rfl rfl (.c4 rfl rfl rfl rfl (.c4 rfl rfl rfl rfl (.c4 rfl rfl rfl rfl (.c4 rfl rfl rfl rfl (.cons rfl (.cons rfl (.nil rfl)))))))) rfl fun fr=>?_
    refine k_cF rfl rfl ?_
    refine zR ?_
    exact⟨rfl,rfl,.c4 rfl rfl rfl rfl (.cons rfl (.cons (by rw[hsD,Int.add_zero];rfl) (.cons rfl (.cons rfl (.cons rfl (.nil rfl))))))⟩
   by_cases c2:q=0
   ·rw[if_pos (.inl c2)]at hsD
    refine k_seq (yu [.plain,.plain,.plain,.plain,.plain,.plain,.plain,.plain,.plain,.plain,.plain,.plain,.plain,.read true,.plain,.plain,.plain,.plain,.read true,.plain,.plain] (by kernel_rfl) (by kernel_rfl) (by kernel_rfl) ?_)
    refine zD (zB rfl (zA rfl)) (zD (zF rfl rfl yf (zA rfl)) ?_)
    refine zD (zG rfl rfl rfl sh3 rfl (zA rfl)) ?_
    refine zD (zGM rfl rfl rfl (by omega) (zA rfl)) ?_
    refine zD (we rfl rfl rfl (zA rfl)) ?_
    refine zD (zB rfl (zA rfl)) (d_gD rfl rfl rfl rfl (decide_eq_true (by omega)) ?_)
    refine zD (zB rfl (zA rfl)) (d_gD rfl rfl rfl rfl (decide_eq_true (by omega)) ?_)
    refine zD (zDf rfl rfl rfl (zA rfl)) ?_
    refine zD (zT rfl rfl (decide_eq_true (by omega)) (zA rfl)) ?_
    refine yY [(1,.lst .ro 1 (zE L)),(2,.int .i64 ↑i),(3,.lst .ro 1 (zE bits)),(4,U.box 0 0),(9,U.box 1 0),(10,.int .i64 now),(11,U.lst kd 1 (zE A)),(12,.int .i64 ↑n),(13,.int .i64 ↑q),(46,.int .i64 ↑q),(47,U.bool (decide ((0:Int)< ↑q))),(48,U.bool (decide ((0:Int)< ↑q)))] [] ([SB.box [.int .i64 (Bk.parts b),.int .i64 (Bk.size b),.lst .ro 1 (zE (Bk.beats b)),.int .i64 (Bk.start b),.int .i64 (Bk.fin b),.int .i64 (Bk.tlo b),.int .i64 (Bk.thi b),.int .i64 (Bk.slo b),.int .i64 (Bk.shi b),.int .i64 (Bk.notice b),.lst .ro 3 (plsU (Bk.players b))],SB.box (Pl.cs p)]) (.c4 rfl rfl rfl rfl (.c4 rfl rfl rfl rfl (.c4 rfl rfl rfl rfl (.nil rfl)))) rfl rfl fun fr=>?_
    refine zD (zB rfl (zA rfl)) (d_gS rfl rfl rfl rfl (decide_eq_false (by omega)) ?_)
    refine d_gS rfl rfl rfl rfl (decide_eq_false (by omega)) ?_
    refine d_gS rfl rfl rfl rfl (decide_eq_false (by omega)) ?_
    refine d_gS rfl rfl rfl rfl (decide_eq_false (by omega)) ?_
    refine d_gS rfl rfl rfl rfl (decide_eq_false (by omega)) ?_
    refine d_gS rfl rfl rfl rfl (decide_eq_false (by omega)) ?_
    refine d_gS rfl rfl rfl rfl (decide_eq_false (by omega)) ?_
    refine d_gS rfl rfl rfl rfl (decide_eq_false (by omega)) ?_
    refine yY [(1,.lst .ro 1 (zE L)),(2,.int .i64 ↑i),(3,.lst .ro 1 (zE bits)),(4,U.box 0 0),(9,U.box 1 0),(10,.int .i64 now),(11,U.lst kd 1 (zE A)),(12,.int .i64 ↑n),(13,.int .i64 ↑q),(46,.int .i64 ↑q),(47,U.bool (decide ((0:Int)< ↑q))),(49,U.bool (decide ((0:Int)< ↑q))),(50,U.tup []),(51,U.tup []),(52,U.tup []),(53,U.tup []),(54,U.tup []),(55,U.tup []),(56,U.tup []),(57,U.tup [])] [] ([SB.box [.int .i64 (Bk.parts b),.int .i64 (Bk.size b),.lst .ro 1 (zE (Bk.beats b)),.int .i64 (Bk.start b),.int .i64 (Bk.fin b),.int .i64 (Bk.tlo b),.int .i64 (Bk.thi b),.int .i64 (Bk.slo b),.int .i64 (Bk.shi b),.int .i64 (Bk.notice b),.lst .ro 3 (plsU (Bk.players b))],SB.box (Pl.cs p)]) (.c4 rfl rfl rfl rfl (.c4 rfl rfl rfl rfl (.c4 rfl rfl rfl rfl (.c4 rfl rfl rfl rfl (.c4 rfl rfl rfl rfl (.nil rfl)))))) rfl rfl fun fr=>?_
    refine d_gS rfl rfl rfl rfl (decide_eq_false (by omega)) ?_
    refine d_gS rfl rfl rfl rfl (decide_eq_false (by omega)) ?_
    refine zD (zO rfl rfl (decide_eq_false (by omega)) (zA rfl)) ?_
    refine zAI ?_
    refine zL [(1,.lst .ro 1 (zE L)),(2,.int .i64 ↑i),(3,.lst .ro 1 (zE bits)),(4,U.box 0 0),(9,U.box 1 0),(10,.int .i64 now),(11,U.lst kd 1 (zE A)),(12,.int .i64 ↑n),(13,.int .i64 ↑q),(46,.int .i64 ↑q),(47,U.bool (decide ((0:Int)< ↑q))),(50,U.tup []),(51,U.tup []),(52,U.tup []),(53,U.tup []),(54,U.tup []),(55,U.tup []),(56,U.tup []),(57,U.tup []),(58,U.tup []),(59,U.tup []),(60,.bool false)] ([SB.box [.int .i64 (Bk.parts b),.int .i64 (Bk.size b),.lst .ro 1 (zE (Bk.beats b)),.int .i64 (Bk.start b),.int .i64 (Bk.fin b),.int .i64 (Bk.tlo b),.int .i64 (Bk.thi b),.int .i64 (Bk.slo b),.int .i64 (Bk.shi b),.int .i64 (Bk.notice b),.lst .ro 3 (plsU (Bk.players b))],SB.box (Pl.cs p)]) (.c4 rfl rfl rfl rfl (.c4 rfl rfl rfl rfl (.c4 rfl rfl rfl rfl (.c4 rfl rfl rfl rfl (.c4 rfl rfl rfl rfl (.cons rfl (.cons rfl (.nil rfl)))))))) rfl fun fr=>?_
    refine k_cF rfl rfl ?_
    refine zR ?_
    exact⟨rfl,rfl,.c4 rfl rfl rfl rfl (.cons rfl (.cons (by rw[hsD,Int.add_zero];rfl) (.cons rfl (.cons rfl (.cons rfl (.nil rfl))))))⟩
   obtain⟨y,hy,_⟩:=at_ok h (show((q - 1:Nat):Int)<b.parts by omega)
   have hy2:L[((q:Int) - 1).toNat]? =some y:=by rw[show((q:Int) - 1).toNat=q - 1 by omega];exact hy
   by_cases c3:x=y
   ·rw[if_pos (.inr (.inr (by rw[hx,hy,c3])))]at hsD
    refine k_seq (yu [.plain,.plain,.plain,.plain,.plain,.plain,.plain,.plain,.plain,.plain,.plain,.plain,.plain,.read true,.plain,.plain,.plain,.plain,.read true,.plain,.plain] (by kernel_rfl) (by kernel_rfl) (by kernel_rfl) ?_)
    refine zD (zB rfl (zA rfl)) (zD (zF rfl rfl yf (zA rfl)) ?_)
    refine zD (zG rfl rfl rfl sh3 rfl (zA rfl)) ?_
    refine zD (zGM rfl rfl rfl (by omega) (zA rfl)) ?_
    refine zD (we rfl rfl rfl (zA rfl)) ?_
    refine zD (zB rfl (zA rfl)) (d_gD rfl rfl rfl rfl (decide_eq_true (by omega)) ?_)
    refine zD (zB rfl (zA rfl)) (d_gD rfl rfl rfl rfl (decide_eq_true (by omega)) ?_)
    refine zD (zDf rfl rfl rfl (zA rfl)) ?_
    refine zD (zT rfl rfl (decide_eq_true (by omega)) (zA rfl)) ?_
    refine yY [(1,.lst .ro 1 (zE L)),(2,.int .i64 ↑i),(3,.lst .ro 1 (zE bits)),(4,U.box 0 0),(9,U.box 1 0),(10,.int .i64 now),(11,U.lst kd 1 (zE A)),(12,.int .i64 ↑n),(13,.int .i64 ↑q),(46,.int .i64 ↑q),(47,U.bool (decide ((0:Int)< ↑q))),(48,U.bool (decide ((0:Int)< ↑q)))] [] ([SB.box [.int .i64 (Bk.parts b),.int .i64 (Bk.size b),.lst .ro 1 (zE (Bk.beats b)),.int .i64 (Bk.start b),.int .i64 (Bk.fin b),.int .i64 (Bk.tlo b),.int .i64 (Bk.thi b),.int .i64 (Bk.slo b),.int .i64 (Bk.shi b),.int .i64 (Bk.notice b),.lst .ro 3 (plsU (Bk.players b))],SB.box (Pl.cs p)]) (.c4 rfl rfl rfl rfl (.c4 rfl rfl rfl rfl (.c4 rfl rfl rfl rfl (.nil rfl)))) rfl rfl fun fr=>?_
    refine zD (zB rfl (zA rfl)) (d_gD rfl rfl rfl rfl (decide_eq_true (by omega)) ?_)
    refine zD (zB rfl (zA rfl)) (d_gD rfl rfl rfl rfl (decide_eq_true (by omega)) ?_)
    refine zD (zB rfl (zA rfl)) (d_gD rfl rfl rfl rfl (decide_eq_true (by omega)) ?_)
    refine zD (wJ (u:=.int .i64 (x)) rfl ty22 rfl rfl (Int.natCast_nonneg _) (by simp[hx]) cl3 (zA rfl)) ?_
    refine d_gD rfl rfl rfl rfl (decide_eq_true (by omega)) ?_
    refine zi rfl (yD rfl rfl sh3 rfl (zA rfl)) ?_
    refine d_gD rfl rfl rfl rfl (decide_eq_true (by omega)) ?_
    refine zD (zB rfl (zA rfl)) (d_gD rfl rfl rfl rfl (decide_eq_true (by omega)) ?_)
    refine zD (zB rfl (zA rfl)) (d_gD rfl rfl rfl rfl (decide_eq_true (by omega)) ?_)
    refine zD (zCP rfl rfl rfl (by unfold I64;omega) (zA rfl)) ?_
    refine d_gD rfl rfl rfl rfl (decide_eq_true (by omega)) ?_
    refine zD (wJ (u:=.int .i64 (y)) rfl ty22 rfl rfl (by omega) (by simp[hy]) cl3 (zA rfl)) ?_
    refine yY [(1,.lst .ro 1 (zE L)),(2,.int .i64 ↑i),(3,.lst .ro 1 (zE bits)),(4,U.box 0 0),(9,U.box 1 0),(10,.int .i64 now),(11,U.lst kd 1 (zE A)),(12,.int .i64 ↑n),(13,.int .i64 ↑q),(46,.int .i64 ↑q),(47,U.bool (decide ((0:Int)< ↑q))),(49,U.bool (decide ((0:Int)< ↑q))),(50,.lst .ro 1 (zE L)),(51,.int .i64 ↑q),(52,U.eref [.int .i64 x] 0),(53,.int .i64 x),(54,.lst .ro 1 (zE L)),(55,.int .i64 ↑q),(56,.int .i64 (↑q - (1:Int))),(57,U.eref [.int .i64 y] 0)] [] ([SB.box [.int .i64 (Bk.parts b),.int .i64 (Bk.size b),.lst .ro 1 (zE (Bk.beats b)),.int .i64 (Bk.start b),.int .i64 (Bk.fin b),.int .i64 (Bk.tlo b),.int .i64 (Bk.thi b),.int .i64 (Bk.slo b),.int .i64 (Bk.shi b),.int .i64 (Bk.notice b),.lst .ro 3 (plsU (Bk.players b))],SB.box (Pl.cs p)]) (.c4 rfl rfl rfl rfl (.c4 rfl rfl rfl rfl (.c4 rfl rfl rfl rfl (.c4 rfl rfl rfl rfl (.c4 rfl rfl rfl rfl (.nil rfl)))))) rfl rfl fun fr=>?_
    refine d_gD rfl rfl rfl rfl (decide_eq_true (by omega)) ?_
    refine yY [(1,.lst .ro 1 (zE L)),(2,.int .i64 ↑i),(3,.lst .ro 1 (zE bits)),(4,U.box 0 0),(9,U.box 1 0),(10,.int .i64 now),(11,U.lst kd 1 (zE A)),(12,.int .i64 ↑n),(13,.int .i64 ↑q),(46,.int .i64 ↑q),(47,U.bool (decide ((0:Int)< ↑q))),(49,U.bool (decide ((0:Int)< ↑q))),(50,.lst .ro 1 (zE L)),(51,.int .i64 ↑q),(52,U.eref [.int .i64 x] 0),(53,.int .i64 x),(54,.lst .ro 1 (zE L)),(55,.int .i64 ↑q),(56,.int .i64 (↑q - (1:Int))),(57,U.eref [.int .i64 y] 0)] [] ([SB.box [.int .i64 (Bk.parts b),.int .i64 (Bk.size b),.lst .ro 1 (zE (Bk.beats b)),.int .i64 (Bk.start b),.int .i64 (Bk.fin b),.int .i64 (Bk.tlo b),.int .i64 (Bk.thi b),.int .i64 (Bk.slo b),.int .i64 (Bk.shi b),.int .i64 (Bk.notice b),.lst .ro 3 (plsU (Bk.players b))],SB.box (Pl.cs p)]) (.c4 rfl rfl rfl rfl (.c4 rfl rfl rfl rfl (.c4 rfl rfl rfl rfl (.c4 rfl rfl rfl rfl (.c4 rfl rfl rfl rfl (.nil rfl)))))) rfl rfl fun fr=>?_
    refine zi rfl (yD rfl rfl sh3 rfl (zA rfl)) ?_
    refine d_gD rfl rfl rfl rfl (decide_eq_true (by omega)) ?_
    refine zD (wZ rfl rfl rfl (zA rfl)) ?_
    refine zD (zT rfl rfl (decide_eq_true (by omega)) (zA rfl)) ?_
    refine zAI ?_
    refine zL [(1,.lst .ro 1 (zE L)),(2,.int .i64 ↑i),(3,.lst .ro 1 (zE bits)),(4,U.box 0 0),(9,U.box 1 0),(10,.int .i64 now),(11,U.lst kd 1 (zE A)),(12,.int .i64 ↑n),(13,.int .i64 ↑q),(46,.int .i64 ↑q),(47,U.bool (decide ((0:Int)< ↑q))),(50,.lst .ro 1 (zE L)),(51,.int .i64 ↑q),(52,U.eref [.int .i64 x] 0),(53,.int .i64 x),(54,.lst .ro 1 (zE L)),(55,.int .i64 ↑q),(56,.int .i64 (↑q - (1:Int))),(57,U.eref [.int .i64 y] 0),(58,.int .i64 y),(59,U.bool (decide (x≠y))),(60,U.bool (decide (x≠y)))] ([SB.box [.int .i64 (Bk.parts b),.int .i64 (Bk.size b),.lst .ro 1 (zE (Bk.beats b)),.int .i64 (Bk.start b),.int .i64 (Bk.fin b),.int .i64 (Bk.tlo b),.int .i64 (Bk.thi b),.int .i64 (Bk.slo b),.int .i64 (Bk.shi b),.int .i64 (Bk.notice b),.lst .ro 3 (plsU (Bk.players b))],SB.box (Pl.cs p)]) (.c4 rfl rfl rfl rfl (.c4 rfl rfl rfl rfl (.c4 rfl rfl rfl rfl (.c4 rfl rfl rfl rfl (.c4 rfl rfl rfl rfl (.cons rfl (.cons rfl (.nil rfl)))))))) rfl fun fr=>?_
    refine k_cF rfl (decide_eq_false (by omega)) (zR ?_)
    exact⟨rfl,rfl,.c4 rfl rfl rfl rfl (.cons rfl (.cons (by rw[hsD,Int.add_zero];rfl) (.cons rfl (.cons rfl (.cons rfl (.nil rfl))))))⟩
   ·rw[if_neg (by rw[hx,hy];rintro(e|e|e);exact c2 e;exact c1 e;exact c3 (Option.some.inj e))]at hsD
    have q53:RetP Tryd.prog is orc 53 [.lst .ro 1 (zE bits),.int .i64 ((n:Int)+i)] (.int .i64 (nthI bits (n+i))):=ret53 hi bits (n+i)
    refine k_seq (yu [.plain,.plain,.plain,.plain,.plain,.plain,.plain,.plain,.plain,.plain,.plain,.plain,.plain,.read true,.plain,.plain,.plain,.plain,.read true,.plain,.plain] (by kernel_rfl) (by kernel_rfl) (by kernel_rfl) ?_)
    refine zD (zB rfl (zA rfl)) (zD (zF rfl rfl yf (zA rfl)) ?_)
    refine zD (zG rfl rfl rfl sh3 rfl (zA rfl)) ?_
    refine zD (zGM rfl rfl rfl (by omega) (zA rfl)) ?_
    refine zD (we rfl rfl rfl (zA rfl)) ?_
    refine zD (zB rfl (zA rfl)) (d_gD rfl rfl rfl rfl (decide_eq_true (by omega)) ?_)
    refine zD (zB rfl (zA rfl)) (d_gD rfl rfl rfl rfl (decide_eq_true (by omega)) ?_)
    refine zD (zDf rfl rfl rfl (zA rfl)) ?_
    refine zD (zT rfl rfl (decide_eq_true (by omega)) (zA rfl)) ?_
    refine yY [(1,.lst .ro 1 (zE L)),(2,.int .i64 ↑i),(3,.lst .ro 1 (zE bits)),(4,U.box 0 0),(9,U.box 1 0),(10,.int .i64 now),(11,U.lst kd 1 (zE A)),(12,.int .i64 ↑n),(13,.int .i64 ↑q),(46,.int .i64 ↑q),(47,U.bool (decide ((0:Int)< ↑q))),(48,U.bool (decide ((0:Int)< ↑q)))] [] ([SB.box [.int .i64 (Bk.parts b),.int .i64 (Bk.size b),.lst .ro 1 (zE (Bk.beats b)),.int .i64 (Bk.start b),.int .i64 (Bk.fin b),.int .i64 (Bk.tlo b),.int .i64 (Bk.thi b),.int .i64 (Bk.slo b),.int .i64 (Bk.shi b),.int .i64 (Bk.notice b),.lst .ro 3 (plsU (Bk.players b))],SB.box (Pl.cs p)]) (.c4 rfl rfl rfl rfl (.c4 rfl rfl rfl rfl (.c4 rfl rfl rfl rfl (.nil rfl)))) rfl rfl fun fr=>?_
    refine zD (zB rfl (zA rfl)) (d_gD rfl rfl rfl rfl (decide_eq_true (by omega)) ?_)
    refine zD (zB rfl (zA rfl)) (d_gD rfl rfl rfl rfl (decide_eq_true (by omega)) ?_)
    refine zD (zB rfl (zA rfl)) (d_gD rfl rfl rfl rfl (decide_eq_true (by omega)) ?_)
    refine zD (wJ (u:=.int .i64 (x)) rfl ty22 rfl rfl (Int.natCast_nonneg _) (by simp[hx]) cl3 (zA rfl)) ?_
    refine d_gD rfl rfl rfl rfl (decide_eq_true (by omega)) ?_
    refine zi rfl (yD rfl rfl sh3 rfl (zA rfl)) ?_
    refine d_gD rfl rfl rfl rfl (decide_eq_true (by omega)) ?_
    refine zD (zB rfl (zA rfl)) (d_gD rfl rfl rfl rfl (decide_eq_true (by omega)) ?_)
    refine zD (zB rfl (zA rfl)) (d_gD rfl rfl rfl rfl (decide_eq_true (by omega)) ?_)
    refine zD (zCP rfl rfl rfl (by unfold I64;omega) (zA rfl)) ?_
    refine d_gD rfl rfl rfl rfl (decide_eq_true (by omega)) ?_
    refine zD (wJ (u:=.int .i64 (y)) rfl ty22 rfl rfl (by omega) (by simp[hy]) cl3 (zA rfl)) ?_
    refine yY [(1,.lst .ro 1 (zE L)),(2,.int .i64 ↑i),(3,.lst .ro 1 (zE bits)),(4,U.box 0 0),(9,U.box 1 0),(10,.int .i64 now),(11,U.lst kd 1 (zE A)),(12,.int .i64 ↑n),(13,.int .i64 ↑q),(46,.int .i64 ↑q),(47,U.bool (decide ((0:Int)< ↑q))),(49,U.bool (decide ((0:Int)< ↑q))),(50,.lst .ro 1 (zE L)),(51,.int .i64 ↑q),(52,U.eref [.int .i64 x] 0),(53,.int .i64 x),(54,.lst .ro 1 (zE L)),(55,.int .i64 ↑q),(56,.int .i64 (↑q - (1:Int))),(57,U.eref [.int .i64 y] 0)] [] ([SB.box [.int .i64 (Bk.parts b),.int .i64 (Bk.size b),.lst .ro 1 (zE (Bk.beats b)),.int .i64 (Bk.start b),.int .i64 (Bk.fin b),.int .i64 (Bk.tlo b),.int .i64 (Bk.thi b),.int .i64 (Bk.slo b),.int .i64 (Bk.shi b),.int .i64 (Bk.notice b),.lst .ro 3 (plsU (Bk.players b))],SB.box (Pl.cs p)]) (.c4 rfl rfl rfl rfl (.c4 rfl rfl rfl rfl (.c4 rfl rfl rfl rfl (.c4 rfl rfl rfl rfl (.c4 rfl rfl rfl rfl (.nil rfl)))))) rfl rfl fun fr=>?_
    refine d_gD rfl rfl rfl rfl (decide_eq_true (by omega)) ?_
    refine yY [(1,.lst .ro 1 (zE L)),(2,.int .i64 ↑i),(3,.lst .ro 1 (zE bits)),(4,U.box 0 0),(9,U.box 1 0),(10,.int .i64 now),(11,U.lst kd 1 (zE A)),(12,.int .i64 ↑n),(13,.int .i64 ↑q),(46,.int .i64 ↑q),(47,U.bool (decide ((0:Int)< ↑q))),(49,U.bool (decide ((0:Int)< ↑q))),(50,.lst .ro 1 (zE L)),(51,.int .i64 ↑q),(52,U.eref [.int .i64 x] 0),(53,.int .i64 x),(54,.lst .ro 1 (zE L)),(55,.int .i64 ↑q),(56,.int .i64 (↑q - (1:Int))),(57,U.eref [.int .i64 y] 0)] [] ([SB.box [.int .i64 (Bk.parts b),.int .i64 (Bk.size b),.lst .ro 1 (zE (Bk.beats b)),.int .i64 (Bk.start b),.int .i64 (Bk.fin b),.int .i64 (Bk.tlo b),.int .i64 (Bk.thi b),.int .i64 (Bk.slo b),.int .i64 (Bk.shi b),.int .i64 (Bk.notice b),.lst .ro 3 (plsU (Bk.players b))],SB.box (Pl.cs p)]) (.c4 rfl rfl rfl rfl (.c4 rfl rfl rfl rfl (.c4 rfl rfl rfl rfl (.c4 rfl rfl rfl rfl (.c4 rfl rfl rfl rfl (.nil rfl)))))) rfl rfl fun fr=>?_
    refine zi rfl (yD rfl rfl sh3 rfl (zA rfl)) ?_
    refine d_gD rfl rfl rfl rfl (decide_eq_true (by omega)) ?_
    refine zD (wZ rfl rfl rfl (zA rfl)) ?_
    refine zD (zT rfl rfl (decide_eq_true (by omega)) (zA rfl)) ?_
    refine zAI ?_
    refine zL [(1,.lst .ro 1 (zE L)),(2,.int .i64 ↑i),(3,.lst .ro 1 (zE bits)),(4,U.box 0 0),(9,U.box 1 0),(10,.int .i64 now),(11,U.lst kd 1 (zE A)),(12,.int .i64 ↑n),(13,.int .i64 ↑q),(46,.int .i64 ↑q),(47,U.bool (decide ((0:Int)< ↑q))),(50,.lst .ro 1 (zE L)),(51,.int .i64 ↑q),(52,U.eref [.int .i64 x] 0),(53,.int .i64 x),(54,.lst .ro 1 (zE L)),(55,.int .i64 ↑q),(56,.int .i64 (↑q - (1:Int))),(57,U.eref [.int .i64 y] 0),(58,.int .i64 y),(59,U.bool (decide (x≠y))),(60,U.bool (decide (x≠y)))] ([SB.box [.int .i64 (Bk.parts b),.int .i64 (Bk.size b),.lst .ro 1 (zE (Bk.beats b)),.int .i64 (Bk.start b),.int .i64 (Bk.fin b),.int .i64 (Bk.tlo b),.int .i64 (Bk.thi b),.int .i64 (Bk.slo b),.int .i64 (Bk.shi b),.int .i64 (Bk.notice b),.lst .ro 3 (plsU (Bk.players b))],SB.box (Pl.cs p)]) (.c4 rfl rfl rfl rfl (.c4 rfl rfl rfl rfl (.c4 rfl rfl rfl rfl (.c4 rfl rfl rfl rfl (.c4 rfl rfl rfl rfl (.cons rfl (.cons rfl (.nil rfl)))))))) rfl fun fr=>?_
    refine k_cT rfl (decide_eq_true (by omega)) (yu [.plain,.plain,.read true,.plain,.plain,.plain,.plain,.read false,.plain,.plain,.plain] (by kernel_rfl) (by kernel_rfl) (by kernel_rfl) ?_)
    refine zD (zB rfl (zA rfl)) (zD (zF rfl rfl fld27_6 (zA rfl)) ?_)
    refine zi rfl (zK rfl rfl rfl sh24 rfl (zA rfl)) ?_
    refine zD (zB rfl (zA rfl)) (zD (zB rfl (zA rfl)) (zD (zB rfl (zA rfl)) ?_))
    refine zD (yr rfl rfl rfl (by unfold I64;omega) (zA rfl)) ?_
    refine zAU rfl (q53) (.int _ _) (.lrefl _) ?_
    refine zD (zQ rfl (ret88 hi b.slo b.shi (nthI bits (n+i)) (by omega) (by omega)) (.lrefl _) (zA rfl)) ?_
    refine zD (yr rfl rfl rfl (by unfold I64;omega) (zA rfl)) ?_
    refine zD (zC rfl (zA rfl)) ?_
    refine zAI ?_
    exact⟨rfl,rfl,.c4 rfl rfl rfl rfl (.cons rfl (.cons (by rw[hsD];rfl) (.cons rfl (.cons rfl (.cons rfl (.nil rfl))))))⟩
  obtain⟨hst4,hs4⟩:=hM
  have q53:RetP Tryd.prog is orc 53 [.lst .ro 1 (zE bits),.int .i64 ((n:Int)+2*i+1)] (.int .i64 (nthI bits (n+2*i+1))):=by
   have:=ret53 (orc:=orc) hi bits (n+2*i+1)
   rw[show((n+2*i+1:Nat):Int)=(n:Int)+2*i+1 by omega]at this;exact this
  have q88:=ret88 (orc:=orc) hi c.a c.b (nthI bits (n+2*i+1)) (by omega) (by omega)
  rw[eca]at etr
  generalize zDo c.a c.b (nthI bits (n+2*i+1))=ca at*
  refine zL _ _ hs4 hst4 fun fr4=>?_
  refine k_seq (yu [.plain,.plain,.read true,.plain,.plain,.plain,.read true,.plain,.read true,.plain,.plain,.plain,.plain,.plain,.plain,.read false,.plain,.plain,.plain,.plain] (by kernel_rfl) (by kernel_rfl) (by kernel_rfl) ?_)
  refine zD (zB rfl (zA rfl)) (zD (zF rfl rfl zBy (zA rfl)) ?_)
  refine zi rfl (zG rfl rfl rfl sh66 rfl (zA rfl)) (zD (zB rfl (zA rfl)) (zD (zB rfl (zA rfl)) (zD (wJ (u:=.int .i64 (x)) rfl ty22 rfl rfl (Int.natCast_nonneg _) (by simp[hx]) cl3 (zA rfl)) ?_)))
  refine zi rfl (yD rfl rfl sh3 rfl (zA rfl)) ?_
  refine zD (wJ (u:=(c).u) rfl ty66 rfl rfl (by omega) (by simp[hc1]) cl24 (zA rfl)) ?_
  refine zi rfl (wk rfl rfl sh24 rfl (zA rfl)) ?_
  refine yY [(1,.lst .ro 1 (zE L)),(2,.int .i64 ↑i),(3,.lst .ro 1 (zE bits)),(4,U.box 0 0),(9,U.box 1 0),(11,U.lst kd 1 (zE A)),(12,.int .i64 ↑n),(71,.int .i64 (now+sl)),(79,U.agg [.int .i64 c.a,.int .i64 c.b])] [] ([SB.box [.int .i64 (Bk.parts b),.int .i64 (Bk.size b),.lst .ro 1 (zE (Bk.beats b)),.int .i64 (Bk.start b),.int .i64 (Bk.fin b),.int .i64 (Bk.tlo b),.int .i64 (Bk.thi b),.int .i64 (Bk.slo b),.int .i64 (Bk.shi b),.int .i64 (Bk.notice b),.lst .ro 3 (plsU (Bk.players b))],SB.box (Pl.cs p)]) (.c4 rfl rfl rfl rfl (.c4 rfl rfl rfl rfl (.cons rfl (.nil rfl)))) rfl rfl fun fr=>?_
  refine zD (zB rfl (zA rfl)) (zD (zB rfl (zA rfl)) (zD (zB rfl (zA rfl)) ?_))
  refine zD (o_mul rfl rfl rfl (by unfold I64;omega) (zA rfl)) ?_
  refine zD (yr rfl rfl rfl (by unfold I64;omega) (zA rfl)) ?_
  refine zD (yr rfl rfl rfl (by unfold I64;omega) (zA rfl)) ?_
  refine zAU rfl (q53) (.int _ _) (.lrefl _) ?_
  refine zD (zQ rfl (q88) (.lrefl _) (zA rfl)) ?_
  refine zD (zCP rfl rfl rfl (by unfold I64;omega) (zA rfl)) ?_
  refine yY [(1,.lst .ro 1 (zE L)),(2,.int .i64 ↑i),(3,.lst .ro 1 (zE bits)),(4,U.box 0 0),(9,U.box 1 0),(11,U.lst kd 1 (zE A)),(12,.int .i64 ↑n),(88,.int .i64 (now+sl - ca))] [] ([SB.box [.int .i64 (Bk.parts b),.int .i64 (Bk.size b),.lst .ro 1 (zE (Bk.beats b)),.int .i64 (Bk.start b),.int .i64 (Bk.fin b),.int .i64 (Bk.tlo b),.int .i64 (Bk.thi b),.int .i64 (Bk.slo b),.int .i64 (Bk.shi b),.int .i64 (Bk.notice b),.lst .ro 3 (plsU (Bk.players b))],SB.box (Pl.cs p)]) (.c4 rfl rfl rfl rfl (.c4 rfl rfl rfl rfl (.nil rfl))) rfl rfl fun fr=>?_
  refine zD (o_max rfl rfl rfl (zA rfl)) ?_
  refine zD (zC rfl (zA rfl)) ?_
  refine zAI ?_
  refine zL [(1,.lst .ro 1 (zE L)),(2,.int .i64 ↑i),(3,.lst .ro 1 (zE bits)),(4,U.box 0 0),(9,U.box 1 0),(10,.int .i64 (Max.max (0:Int) (now+sl - ca))),(11,U.lst kd 1 (zE A)),(12,.int .i64 ↑n)] ([SB.box [.int .i64 (Bk.parts b),.int .i64 (Bk.size b),.lst .ro 1 (zE (Bk.beats b)),.int .i64 (Bk.start b),.int .i64 (Bk.fin b),.int .i64 (Bk.tlo b),.int .i64 (Bk.thi b),.int .i64 (Bk.slo b),.int .i64 (Bk.shi b),.int .i64 (Bk.notice b),.lst .ro 3 (plsU (Bk.players b))],SB.box (Pl.cs p)]) (.c4 rfl rfl rfl rfl (.c4 rfl rfl rfl rfl (.nil rfl))) rfl fun fr=>?_
  refine k_region (zB rfl (zB rfl (zCz (es:=[.int .i64 (Max.max (0:Int) (now+sl - ca))]) rfl ty22 ze3 cl3 rfl rfl rfl rfl rfl rfl rfl rfl ?_)))
  rcases hkd with rfl|rfl
  ·refine zFj rfl ap22_22 rfl rfl (by simp) (by simp) (by simp[yX,yF,oneU]) (by simp;omega) ?_
   refine zC rfl (zA (k_region (zB rfl ?_)))
   refine yr rfl rfl rfl (by unfold I64;omega) (zC rfl (zA ?_))
   refine⟨kk - 1,by omega,n+1,.own,by omega,.inr rfl,rfl,.c4 rfl rfl rfl rfl (.cons rfl (.cons (by rw[etr];rfl) (.cons (by rw[hsu,etr];simp[zE];rfl) (.cons rfl (.nil rfl)))))⟩
  ·refine o_appendS 11 rfl ap22_22 rfl rfl rfl (by simp) (by simp) (by simp[yX,yF,oneU]) (by simp at hlen ⊢;omega) ?_
   refine zC rfl (zA (k_region (zB rfl ?_)))
   refine yr rfl rfl rfl (by unfold I64;omega) (zC rfl (zA ?_))
   refine⟨kk - 1,by omega,n+1,.own,by omega,.inr rfl,rfl,.c4 rfl rfl rfl rfl (.cons rfl (.cons (by rw[etr];rfl) (.cons (by rw[hsu,etr];simp[zE];rfl) (.cons rfl (.nil rfl)))))⟩
 ·have hie:(b.parts*b.size).toNat=n:=by omega
  rw[hie]
  refine zL _ _ hs2 hst2 fun fr2=>?_
  rcases hkd with rfl|rfl
  ·refine k_seq ?_
   refine kQ (zB rfl (zF rfl rfl zAT (zG rfl rfl rfl sh3 rfl (zF rfl rfl yf (zG rfl rfl rfl sh3 rfl ?_)))))
   refine o_mul rfl rfl rfl (by unfold I64;omega) ?_
   refine zt rfl rfl rfl (zA (k_cF rfl (decide_eq_false (by omega)) (yj (kQ (zB rfl (zC rfl (zA (zZ ?_))))))))
   refine⟨.inr rfl,_,.cons _ _ _ _ (.tmp 8) .nil,?_⟩
   exact .ro _ _ _
  ·refine k_seq ?_
   refine kQ (zB rfl (zF rfl rfl zAT (zG rfl rfl rfl sh3 rfl (zF rfl rfl yf (zG rfl rfl rfl sh3 rfl ?_)))))
   refine o_mul rfl rfl rfl (by unfold I64;omega) ?_
   refine zt rfl rfl rfl (zA (k_cF rfl (decide_eq_false (by omega)) (yj (kQ (zB rfl (zC rfl (zA (zZ ?_))))))))
   refine⟨.inr rfl,_,.cons _ _ _ _ (.tmp 8) .nil,?_⟩
   exact .refl _
end Go.Proofs.YtfbmlibilcjlgaaDoor.drumGong
