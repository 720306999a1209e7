import Derived.Test.YtfbmlibilcjlgaaDoorVamT22
set_option linter.unusedVariables false
set_option linter.unusedSimpArgs false
set_option linter.constructorNameAsVariable false
namespace Go.Proofs.YtfbmlibilcjlgaaDoor.drumBounds
open Vam
variable {is:FuncId→Bool}{orc:Known}
noncomputable def b68:Code:=(Tryd.f68.body).getD .skip
theorem body68:bodyOf Tryd.prog 68=some (80,b68,[.cell 8 24]):=by kernel_rfl
theorem pure68:pureFn Tryd.prog 68=true:=by kernel_rfl
abbrev Y68(b:Bk)(p:Pl)(lo hg:Int):List SB:=[.box [.int .i64 b.parts,.int .i64 b.size,.lst .ro 1 (zG b.beats),.int .i64 b.start,.int .i64 b.fin,.int .i64 b.tlo,.int .i64 b.thi,.int .i64 b.slo,.int .i64 b.shi,.int .i64 b.notice,.lst .ro 3 (plsU b.players)],.box p.cs,.box [.int .i64 0,.int .i64 0],.box [.int .i64 lo,.int .i64 hg]]
set_option maxHeartbeats 8000000 in
theorem ret68(hi:Off is){b:Bk}{L:List Int}(hb:BOk b)(h:POk b L){i:Nat}{p:Pl}(hp1:b.players[i]? =some p){m:Nat}(hm:(m:Int)≤b.parts*b.size):RetP Tryd.prog is orc 68 [b.u,.lst .ro 1 (zG L),p.u,.int .i64 m] (wB (aftI b false L p m) (aftI b true L p m)):=by
 refine zk body68 pure68 (hi 68 (by decide)) rfl rfl (fun u hu=>?_) (.inl (yq _ _ 6)) ?_
 ·simp only[List.mem_cons,List.not_mem_nil,or_false]at hu
  rcases hu with rfl|rfl|rfl|rfl
  ·exact yK b 4
  ·exact zr 6 .ro (fun h=>by cases h) 1 L
  ·exact dat_pl p 5
  ·exact .int _ _ _
 have hil:=(List.getElem?_eq_some_iff.1 hp1).1
 have hpn:=hb.pn
 have hs:=hb.sz
 have hp:=hb.pa
 have hl:=h.len
 have hpo:=pl_ok hb hp1
 have hmp:=mul_ps hb
 have hsl:=hb.sl
 refine kQ (zc rfl rfl (zc rfl rfl (zi rfl ze24 ?_)))
 refine zA ?_
 refine zH [(1,.lst .ro 1 (zG L)),(3,.int .i64 ↑m),(4,U.box 0 0),(6,U.box 1 0),(8,U.box 2 0)] ([SB.box (Bk.cs b),SB.box [.int .i64 (Pl.la p),.int .i64 (Pl.lb p),.lst .ro 2 (zu (Pl.cat p))],SB.box [.int .i64 0,.int .i64 0]]) (.c4 rfl rfl rfl rfl (.cons rfl (.nil rfl))) rfl fun fr=>?_
 refine kQ (zE rfl rfl zCw (zJ rfl rfl rfl sh24 rfl (zi rfl ze24 ?_)))
 refine zZ rfl rfl sh24 rfl rfl rfl rfl rfl ?_
 refine zA ?_
 refine zH [(1,.lst .ro 1 (zG L)),(3,.int .i64 ↑m),(4,U.box 0 0),(6,U.box 1 0),(8,U.box 2 0),(9,U.box 3 0)] ([SB.box (Bk.cs b),SB.box [.int .i64 (Pl.la p),.int .i64 (Pl.lb p),.lst .ro 2 (zu (Pl.cat p))],SB.box [.int .i64 0,.int .i64 0],SB.box [.int .i64 (Pl.la p),.int .i64 (Pl.lb p)]]) (.c4 rfl rfl rfl rfl (.cons rfl (.cons rfl (.nil rfl)))) rfl fun fr=>?_
 refine k_seq (kQ (zB rfl (zA (zL ?_))))
 refine yh (fun kk s2=>∃n:Nat,kk+n=m∧(∃e,s2.st=Y68 b p (aftI b false L p n) (aftI b true L p n)++e)∧Holds s2 [(1,.lst .ro 1 (zG L)),(3,.int .i64 m),(4,.box 0 0),(6,.box 1 0),(8,.box 2 0),(9,.box 3 0),(10,.int .i64 n)]) (fun kk s2 hI=>?_) m _ ⟨0,by omega,⟨[],rfl⟩,.c4 rfl rfl rfl rfl (.cons rfl (.cons rfl (.cons rfl (.nil rfl))))⟩
 obtain⟨n,hk,⟨e,hst2⟩,hs2⟩:=hI
 have hab:=aft_b hb true L h.rg hpo n
 have hab0:=aft_b hb false L h.rg hpo n
 by_cases hin:n<m
 ·have hin2:(n:Int)<b.parts*b.size:=by omega
  obtain⟨d1,d2⟩:=div_n hb n
  have hq:=part_lt hb hin2
  obtain⟨x,hx,hxr⟩:=at_ok h hq
  have etr:∀w,aftI b w L p (n+1)=max 0 (aftI b w L p n+zAs b w L n - catI (!w) p x):=fun w=>by
   show max 0 (_+_ - catI (!w) p ((L[n / b.size.toNat]?).getD 0))=_
   rw[hx];rfl
  have hsD:∀w,zAs b w L n=if n / b.size.toNat=0∨n % b.size.toNat≠0∨L[n / b.size.toNat]? =L[n / b.size.toNat - 1]? then 0 else endI w ⟨b.slo,b.shi⟩:=fun w=>rfl
  obtain⟨c,hc1⟩:∃c,p.cat[x.toNat]? =some c:=⟨p.cat[x.toNat]'(by omega),List.getElem?_eq_getElem (by omega)⟩
  have hcr:=hpo.2.2 c (List.mem_of_getElem? hc1)
  have ec1:catI (!true) p x=c.a:=by unfold catI;rw[hc1];rfl
  have ec2:catI (!false) p x=c.b:=by unfold catI;rw[hc1];rfl
  have et1:=etr true
  have et2:=etr false
  have hs1:=hsD true
  have hs0:=hsD false
  rw[ec1]at et1
  rw[ec2]at et2
  change zAs b true L n=if _ then 0 else b.shi at hs1
  change zAs b false L n=if _ then 0 else b.slo at hs0
  have hb1:0≤zAs b true L n∧zAs b true L n≤100:=by rw[hs1];split<;>omega
  have hb0:0≤zAs b false L n∧zAs b false L n≤100:=by rw[hs0];split<;>omega
  generalize zAs b true L n=s1 at*
  generalize zAs b false L n=s0 at*
  generalize n / b.size.toNat=q at*
  generalize n % b.size.toNat=r at*
  generalize aftI b true L p n=g at*
  generalize aftI b false L p n=l at*
  refine zH _ _ hs2 hst2 fun fr2=>?_
  refine k_seq (kQ (zC rfl (zC rfl (zf rfl rfl rfl (zA (k_cT rfl (decide_eq_true (by omega)) (zQ (k_seq ?_))))))))
  refine zL (kQ (zC rfl (zE rfl rfl yZ (zF rfl rfl rfl sh3 rfl ?_))))
  refine o_quo rfl rfl rfl (by omega) (by unfold I64;omega) ?_
  refine zB rfl (zA ?_)
  refine zH [(1,.lst .ro 1 (zG L)),(3,.int .i64 m),(4,.box 0 0),(6,.box 1 0),(8,.box 2 0),(9,.box 3 0),(10,.int .i64 n),(11,.int .i64 q)] (Y68 b p l g++e) (.c4 rfl rfl rfl rfl (.cons rfl (.cons rfl (.cons rfl (.cons (by show U.int .i64 _=_;rw[d1]) (.nil rfl)))))) rfl fun fr3=>?_
  refine k_cut (fun st=>st.st=Y68 b p (l+s0) (g+s1)++e∧Holds st [(1,.lst .ro 1 (zG L)),(3,.int .i64 m),(4,.box 0 0),(6,.box 1 0),(8,.box 2 0),(9,.box 3 0),(10,.int .i64 n),(11,.int .i64 q)]) ?_ (fun st hM=>?_)
  ·by_cases c1:r≠0
   ·rw[if_pos (.inr (.inl c1))]at hs1 hs0
    refine k_seq (yL [.plain,.plain,.plain,.plain,.plain,.plain,.plain,.plain,.plain,.plain,.plain,.plain,.plain,.read true,.plain,.plain,.plain,.plain,.read true,.plain,.plain] (by kernel_rfl) (by kernel_rfl) (by kernel_rfl) ?_)
    refine zD (zC rfl (zA rfl)) (zD (zE rfl rfl yZ (zA rfl)) ?_)
    refine zD (zF rfl rfl rfl sh3 rfl (zA rfl)) ?_
    refine zD (o_rem rfl rfl rfl (by omega) (zA rfl)) ?_
    refine zD (zAt rfl rfl rfl (zA rfl)) ?_
    refine zD (zC rfl (zA rfl)) (d_gS rfl rfl rfl rfl (decide_eq_false (by omega)) ?_)
    refine d_gS rfl rfl rfl rfl (decide_eq_false (by omega)) ?_
    refine zD (zN rfl rfl (decide_eq_false (by omega)) (zA rfl)) ?_
    refine yI [(1,.lst .ro 1 (zG L)),(3,.int .i64 ↑m),(4,U.box 0 0),(6,U.box 1 0),(8,U.box 2 0),(9,U.box 3 0),(10,.int .i64 ↑n),(11,.int .i64 ↑q),(30,U.tup []),(31,U.tup []),(32,.bool false)] [] (SB.box (Bk.cs b)::SB.box (Pl.cs p)::SB.box [.int .i64 0,.int .i64 0]::SB.box [.int .i64 l,.int .i64 g]::List.append [] e) (.c4 rfl rfl rfl rfl (.c4 rfl rfl rfl rfl (.cons rfl (.cons rfl (.cons rfl (.nil rfl)))))) rfl rfl fun fr=>?_
    refine zD (zC rfl (zA rfl)) (d_gS rfl rfl rfl rfl rfl (d_gS rfl rfl rfl rfl rfl (d_gS rfl rfl rfl rfl rfl (d_gS rfl rfl rfl rfl rfl (d_gS rfl rfl rfl rfl rfl (d_gS rfl rfl rfl rfl rfl (d_gS rfl rfl rfl rfl rfl (d_gS rfl rfl rfl rfl rfl ?_))))))))
    refine yI [(1,.lst .ro 1 (zG L)),(3,.int .i64 ↑m),(4,U.box 0 0),(6,U.box 1 0),(8,U.box 2 0),(9,U.box 3 0),(10,.int .i64 ↑n),(11,.int .i64 ↑q),(30,U.tup []),(31,U.tup []),(33,.bool false),(34,U.tup []),(35,U.tup []),(36,U.tup []),(37,U.tup []),(38,U.tup []),(39,U.tup []),(40,U.tup []),(41,U.tup [])] [] (SB.box (Bk.cs b)::SB.box (Pl.cs p)::SB.box [.int .i64 0,.int .i64 0]::SB.box [.int .i64 l,.int .i64 g]::List.append [] e) (.c4 rfl rfl rfl rfl (.c4 rfl rfl rfl rfl (.c4 rfl rfl rfl rfl (.c4 rfl rfl rfl rfl (.cons rfl (.cons rfl (.cons rfl (.nil rfl)))))))) rfl rfl fun fr=>?_
    refine d_gS rfl rfl rfl rfl rfl (d_gS rfl rfl rfl rfl rfl (zD (zN rfl rfl rfl (zA rfl)) ?_))
    refine yw ?_
    refine zH [(1,.lst .ro 1 (zG L)),(3,.int .i64 ↑m),(4,U.box 0 0),(6,U.box 1 0),(8,U.box 2 0),(9,U.box 3 0),(10,.int .i64 ↑n),(11,.int .i64 ↑q),(30,U.tup []),(31,U.tup []),(34,U.tup []),(35,U.tup []),(36,U.tup []),(37,U.tup []),(38,U.tup []),(39,U.tup []),(40,U.tup []),(41,U.tup []),(42,U.tup []),(43,U.tup []),(44,.bool false)] (SB.box (Bk.cs b)::SB.box (Pl.cs p)::SB.box [.int .i64 0,.int .i64 0]::SB.box [.int .i64 l,.int .i64 g]::List.append [] e) (.c4 rfl rfl rfl rfl (.c4 rfl rfl rfl rfl (.c4 rfl rfl rfl rfl (.c4 rfl rfl rfl rfl (.c4 rfl rfl rfl rfl (.cons rfl (.nil rfl))))))) rfl fun fr=>?_
    refine k_cF rfl rfl ?_
    refine zQ ?_
    exact⟨rfl,by rw[hs1,hs0,Int.add_zero,Int.add_zero];rfl,.c4 rfl rfl rfl rfl (.c4 rfl rfl rfl rfl (.nil rfl))⟩
   by_cases c2:q=0
   ·rw[if_pos (.inl c2)]at hs1 hs0
    refine k_seq (yL [.plain,.plain,.plain,.plain,.plain,.plain,.plain,.plain,.plain,.plain,.plain,.plain,.plain,.read true,.plain,.plain,.plain,.plain,.read true,.plain,.plain] (by kernel_rfl) (by kernel_rfl) (by kernel_rfl) ?_)
    refine zD (zC rfl (zA rfl)) (zD (zE rfl rfl yZ (zA rfl)) ?_)
    refine zD (zF rfl rfl rfl sh3 rfl (zA rfl)) ?_
    refine zD (o_rem rfl rfl rfl (by omega) (zA rfl)) ?_
    refine zD (zAt rfl rfl rfl (zA rfl)) ?_
    refine zD (zC rfl (zA rfl)) (d_gD rfl rfl rfl rfl (decide_eq_true (by omega)) ?_)
    refine zD (zC rfl (zA rfl)) (d_gD rfl rfl rfl rfl (decide_eq_true (by omega)) ?_)
    refine zD (zBj rfl rfl rfl (zA rfl)) ?_
    refine zD (za rfl rfl (decide_eq_true (by omega)) (zA rfl)) ?_
    refine yI [(1,.lst .ro 1 (zG L)),(3,.int .i64 ↑m),(4,U.box 0 0),(6,U.box 1 0),(8,U.box 2 0),(9,U.box 3 0),(10,.int .i64 ↑n),(11,.int .i64 ↑q),(30,.int .i64 ↑q),(31,U.bool (decide ((0:Int)< ↑q))),(32,U.bool (decide ((0:Int)< ↑q)))] [] (SB.box (Bk.cs b)::SB.box (Pl.cs p)::SB.box [.int .i64 0,.int .i64 0]::SB.box [.int .i64 l,.int .i64 g]::List.append [] e) (.c4 rfl rfl rfl rfl (.c4 rfl rfl rfl rfl (.cons rfl (.cons rfl (.cons rfl (.nil rfl)))))) rfl rfl fun fr=>?_
    refine zD (zC rfl (zA rfl)) (d_gS rfl rfl rfl rfl (decide_eq_false (by omega)) ?_)
    refine d_gS rfl rfl rfl rfl (decide_eq_false (by omega)) ?_
    refine d_gS rfl rfl rfl rfl (decide_eq_false (by omega)) ?_
    refine d_gS rfl rfl rfl rfl (decide_eq_false (by omega)) ?_
    refine d_gS rfl rfl rfl rfl (decide_eq_false (by omega)) ?_
    refine d_gS rfl rfl rfl rfl (decide_eq_false (by omega)) ?_
    refine d_gS rfl rfl rfl rfl (decide_eq_false (by omega)) ?_
    refine d_gS rfl rfl rfl rfl (decide_eq_false (by omega)) ?_
    refine yI [(1,.lst .ro 1 (zG L)),(3,.int .i64 ↑m),(4,U.box 0 0),(6,U.box 1 0),(8,U.box 2 0),(9,U.box 3 0),(10,.int .i64 ↑n),(11,.int .i64 ↑q),(30,.int .i64 ↑q),(31,U.bool (decide ((0:Int)< ↑q))),(33,U.bool (decide ((0:Int)< ↑q))),(34,U.tup []),(35,U.tup []),(36,U.tup []),(37,U.tup []),(38,U.tup []),(39,U.tup []),(40,U.tup []),(41,U.tup [])] [] (SB.box (Bk.cs b)::SB.box (Pl.cs p)::SB.box [.int .i64 0,.int .i64 0]::SB.box [.int .i64 l,.int .i64 g]::List.append [] e) (.c4 rfl rfl rfl rfl (.c4 rfl rfl rfl rfl (.c4 rfl rfl rfl rfl (.c4 rfl rfl rfl rfl (.cons rfl (.cons rfl (.cons rfl (.nil rfl)))))))) rfl rfl fun fr=>?_
    refine d_gS rfl rfl rfl rfl (decide_eq_false (by omega)) ?_
    refine d_gS rfl rfl rfl rfl (decide_eq_false (by omega)) ?_
    refine zD (zN rfl rfl (decide_eq_false (by omega)) (zA rfl)) ?_
    refine yw ?_
    refine zH [(1,.lst .ro 1 (zG L)),(3,.int .i64 ↑m),(4,U.box 0 0),(6,U.box 1 0),(8,U.box 2 0),(9,U.box 3 0),(10,.int .i64 ↑n),(11,.int .i64 ↑q),(30,.int .i64 ↑q),(31,U.bool (decide ((0:Int)< ↑q))),(34,U.tup []),(35,U.tup []),(36,U.tup []),(37,U.tup []),(38,U.tup []),(39,U.tup []),(40,U.tup []),(41,U.tup []),(42,U.tup []),(43,U.tup []),(44,.bool false)] (SB.box (Bk.cs b)::SB.box (Pl.cs p)::SB.box [.int .i64 0,.int .i64 0]::SB.box [.int .i64 l,.int .i64 g]::List.append [] e) (.c4 rfl rfl rfl rfl (.c4 rfl rfl rfl rfl (.c4 rfl rfl rfl rfl (.c4 rfl rfl rfl rfl (.c4 rfl rfl rfl rfl (.cons rfl (.nil rfl))))))) rfl fun fr=>?_
    refine k_cF rfl rfl ?_
    refine zQ ?_
    exact⟨rfl,by rw[hs1,hs0,Int.add_zero,Int.add_zero];rfl,.c4 rfl rfl rfl rfl (.c4 rfl rfl rfl rfl (.nil rfl))⟩
   obtain⟨y,hy,_⟩:=at_ok h (show((q - 1:Nat):Int)<b.parts by omega)
   have hy2:L[((q:Int) - 1).toNat]? =some y:=by rw[show((q:Int) - 1).toNat=q - 1 by omega];exact hy
   by_cases c3:x=y
   ·rw[if_pos (.inr (.inr (by rw[hx,hy,c3])))]at hs1 hs0
    refine k_seq (yL [.plain,.plain,.plain,.plain,.plain,.plain,.plain,.plain,.plain,.plain,.plain,.plain,.plain,.read true,.plain,.plain,.plain,.plain,.read true,.plain,.plain] (by kernel_rfl) (by kernel_rfl) (by kernel_rfl) ?_)
    refine zD (zC rfl (zA rfl)) (zD (zE rfl rfl yZ (zA rfl)) ?_)
    refine zD (zF rfl rfl rfl sh3 rfl (zA rfl)) ?_
    refine zD (o_rem rfl rfl rfl (by omega) (zA rfl)) ?_
    refine zD (zAt rfl rfl rfl (zA rfl)) ?_
    refine zD (zC rfl (zA rfl)) (d_gD rfl rfl rfl rfl (decide_eq_true (by omega)) ?_)
    refine zD (zC rfl (zA rfl)) (d_gD rfl rfl rfl rfl (decide_eq_true (by omega)) ?_)
    refine zD (zBj rfl rfl rfl (zA rfl)) ?_
    refine zD (za rfl rfl (decide_eq_true (by omega)) (zA rfl)) ?_
    refine yI [(1,.lst .ro 1 (zG L)),(3,.int .i64 ↑m),(4,U.box 0 0),(6,U.box 1 0),(8,U.box 2 0),(9,U.box 3 0),(10,.int .i64 ↑n),(11,.int .i64 ↑q),(30,.int .i64 ↑q),(31,U.bool (decide ((0:Int)< ↑q))),(32,U.bool (decide ((0:Int)< ↑q)))] [] (SB.box (Bk.cs b)::SB.box (Pl.cs p)::SB.box [.int .i64 0,.int .i64 0]::SB.box [.int .i64 l,.int .i64 g]::List.append [] e) (.c4 rfl rfl rfl rfl (.c4 rfl rfl rfl rfl (.cons rfl (.cons rfl (.cons rfl (.nil rfl)))))) rfl rfl fun fr=>?_
    refine zD (zC rfl (zA rfl)) (d_gD rfl rfl rfl rfl (decide_eq_true (by omega)) ?_)
    refine zD (zC rfl (zA rfl)) (d_gD rfl rfl rfl rfl (decide_eq_true (by omega)) ?_)
    refine zD (zC rfl (zA rfl)) (d_gD rfl rfl rfl rfl (decide_eq_true (by omega)) ?_)
    refine zD (yD (u:=.int .i64 (x)) rfl ty22 rfl rfl (Int.natCast_nonneg _) (by simp[hx]) cl3 (zA rfl)) ?_
    refine d_gD rfl rfl rfl rfl (decide_eq_true (by omega)) ?_
    refine zR rfl (zT rfl rfl sh3 rfl (zA rfl)) ?_
    refine d_gD rfl rfl rfl rfl (decide_eq_true (by omega)) ?_
    refine zD (zC rfl (zA rfl)) (d_gD rfl rfl rfl rfl (decide_eq_true (by omega)) ?_)
    refine zD (zC rfl (zA rfl)) (d_gD rfl rfl rfl rfl (decide_eq_true (by omega)) ?_)
    refine zD (yn rfl rfl rfl (by unfold I64;omega) (zA rfl)) ?_
    refine d_gD rfl rfl rfl rfl (decide_eq_true (by omega)) ?_
    refine zD (yD (u:=.int .i64 (y)) rfl ty22 rfl rfl (by omega) (by simp[hy]) cl3 (zA rfl)) ?_
    refine yI [(1,.lst .ro 1 (zG L)),(3,.int .i64 ↑m),(4,U.box 0 0),(6,U.box 1 0),(8,U.box 2 0),(9,U.box 3 0),(10,.int .i64 ↑n),(11,.int .i64 ↑q),(30,.int .i64 ↑q),(31,U.bool (decide ((0:Int)< ↑q))),(33,U.bool (decide ((0:Int)< ↑q))),(34,.lst .ro 1 (zG L)),(35,.int .i64 ↑q),(36,U.eref [.int .i64 x] 0),(37,.int .i64 x),(38,.lst .ro 1 (zG L)),(39,.int .i64 ↑q),(40,.int .i64 (↑q - (1:Int))),(41,U.eref [.int .i64 y] 0)] [] (SB.box (Bk.cs b)::SB.box (Pl.cs p)::SB.box [.int .i64 0,.int .i64 0]::SB.box [.int .i64 l,.int .i64 g]::List.append [] e) (.c4 rfl rfl rfl rfl (.c4 rfl rfl rfl rfl (.c4 rfl rfl rfl rfl (.c4 rfl rfl rfl rfl (.cons rfl (.cons rfl (.cons rfl (.nil rfl)))))))) rfl rfl fun fr=>?_
    refine d_gD rfl rfl rfl rfl (decide_eq_true (by omega)) ?_
    refine yI [(1,.lst .ro 1 (zG L)),(3,.int .i64 ↑m),(4,U.box 0 0),(6,U.box 1 0),(8,U.box 2 0),(9,U.box 3 0),(10,.int .i64 ↑n),(11,.int .i64 ↑q),(30,.int .i64 ↑q),(31,U.bool (decide ((0:Int)< ↑q))),(33,U.bool (decide ((0:Int)< ↑q))),(34,.lst .ro 1 (zG L)),(35,.int .i64 ↑q),(36,U.eref [.int .i64 x] 0),(37,.int .i64 x),(38,.lst .ro 1 (zG L)),(39,.int .i64 ↑q),(40,.int .i64 (↑q - (1:Int))),(41,U.eref [.int .i64 y] 0)] [] (SB.box (Bk.cs b)::SB.box (Pl.cs p)::SB.box [.int .i64 0,.int .i64 0]::SB.box [.int .i64 l,.int .i64 g]::List.append [] e) (.c4 rfl rfl rfl rfl (.c4 rfl rfl rfl rfl (.c4 rfl rfl rfl rfl (.c4 rfl rfl rfl rfl (.cons rfl (.cons rfl (.cons rfl (.nil rfl)))))))) rfl rfl fun fr=>?_
    refine zR rfl (zT rfl rfl sh3 rfl (zA rfl)) ?_
    refine d_gD rfl rfl rfl rfl (decide_eq_true (by omega)) ?_
    refine zD (wC rfl rfl rfl (zA rfl)) ?_
    refine zD (za rfl rfl (decide_eq_true (by omega)) (zA rfl)) ?_
    refine yw ?_
    refine zH [(1,.lst .ro 1 (zG L)),(3,.int .i64 ↑m),(4,U.box 0 0),(6,U.box 1 0),(8,U.box 2 0),(9,U.box 3 0),(10,.int .i64 ↑n),(11,.int .i64 ↑q),(30,.int .i64 ↑q),(31,U.bool (decide ((0:Int)< ↑q))),(34,.lst .ro 1 (zG L)),(35,.int .i64 ↑q),(36,U.eref [.int .i64 x] 0),(37,.int .i64 x),(38,.lst .ro 1 (zG L)),(39,.int .i64 ↑q),(40,.int .i64 (↑q - (1:Int))),(41,U.eref [.int .i64 y] 0),(42,.int .i64 y),(43,U.bool (decide (x≠y))),(44,U.bool (decide (x≠y)))] (SB.box (Bk.cs b)::SB.box (Pl.cs p)::SB.box [.int .i64 0,.int .i64 0]::SB.box [.int .i64 l,.int .i64 g]::List.append [] e) (.c4 rfl rfl rfl rfl (.c4 rfl rfl rfl rfl (.c4 rfl rfl rfl rfl (.c4 rfl rfl rfl rfl (.c4 rfl rfl rfl rfl (.cons rfl (.nil rfl))))))) rfl fun fr=>?_
    refine k_cF rfl (decide_eq_false (by omega)) (zQ ?_)
    exact⟨rfl,by rw[hs1,hs0,Int.add_zero,Int.add_zero];rfl,.c4 rfl rfl rfl rfl (.c4 rfl rfl rfl rfl (.nil rfl))⟩
   ·rw[if_neg (by rw[hx,hy];rintro(e|e|e);exact c2 e;exact c1 e;exact c3 (Option.some.inj e))]at hs1 hs0
    refine k_seq (yL [.plain,.plain,.plain,.plain,.plain,.plain,.plain,.plain,.plain,.plain,.plain,.plain,.plain,.read true,.plain,.plain,.plain,.plain,.read true,.plain,.plain] (by kernel_rfl) (by kernel_rfl) (by kernel_rfl) ?_)
    refine zD (zC rfl (zA rfl)) (zD (zE rfl rfl yZ (zA rfl)) ?_)
    refine zD (zF rfl rfl rfl sh3 rfl (zA rfl)) ?_
    refine zD (o_rem rfl rfl rfl (by omega) (zA rfl)) ?_
    refine zD (zAt rfl rfl rfl (zA rfl)) ?_
    refine zD (zC rfl (zA rfl)) (d_gD rfl rfl rfl rfl (decide_eq_true (by omega)) ?_)
    refine zD (zC rfl (zA rfl)) (d_gD rfl rfl rfl rfl (decide_eq_true (by omega)) ?_)
    refine zD (zBj rfl rfl rfl (zA rfl)) ?_
    refine zD (za rfl rfl (decide_eq_true (by omega)) (zA rfl)) ?_
    refine yI [(1,.lst .ro 1 (zG L)),(3,.int .i64 ↑m),(4,U.box 0 0),(6,U.box 1 0),(8,U.box 2 0),(9,U.box 3 0),(10,.int .i64 ↑n),(11,.int .i64 ↑q),(30,.int .i64 ↑q),(31,U.bool (decide ((0:Int)< ↑q))),(32,U.bool (decide ((0:Int)< ↑q)))] [] (SB.box (Bk.cs b)::SB.box (Pl.cs p)::SB.box [.int .i64 0,.int .i64 0]::SB.box [.int .i64 l,.int .i64 g]::List.append [] e) (.c4 rfl rfl rfl rfl (.c4 rfl rfl rfl rfl (.cons rfl (.cons rfl (.cons rfl (.nil rfl)))))) rfl rfl fun fr=>?_
    refine zD (zC rfl (zA rfl)) (d_gD rfl rfl rfl rfl (decide_eq_true (by omega)) ?_)
    refine zD (zC rfl (zA rfl)) (d_gD rfl rfl rfl rfl (decide_eq_true (by omega)) ?_)
    refine zD (zC rfl (zA rfl)) (d_gD rfl rfl rfl rfl (decide_eq_true (by omega)) ?_)
    refine zD (yD (u:=.int .i64 (x)) rfl ty22 rfl rfl (Int.natCast_nonneg _) (by simp[hx]) cl3 (zA rfl)) ?_
    refine d_gD rfl rfl rfl rfl (decide_eq_true (by omega)) ?_
    refine zR rfl (zT rfl rfl sh3 rfl (zA rfl)) ?_
    refine d_gD rfl rfl rfl rfl (decide_eq_true (by omega)) ?_
    refine zD (zC rfl (zA rfl)) (d_gD rfl rfl rfl rfl (decide_eq_true (by omega)) ?_)
    refine zD (zC rfl (zA rfl)) (d_gD rfl rfl rfl rfl (decide_eq_true (by omega)) ?_)
    refine zD (yn rfl rfl rfl (by unfold I64;omega) (zA rfl)) ?_
    refine d_gD rfl rfl rfl rfl (decide_eq_true (by omega)) ?_
    refine zD (yD (u:=.int .i64 (y)) rfl ty22 rfl rfl (by omega) (by simp[hy]) cl3 (zA rfl)) ?_
    refine yI [(1,.lst .ro 1 (zG L)),(3,.int .i64 ↑m),(4,U.box 0 0),(6,U.box 1 0),(8,U.box 2 0),(9,U.box 3 0),(10,.int .i64 ↑n),(11,.int .i64 ↑q),(30,.int .i64 ↑q),(31,U.bool (decide ((0:Int)< ↑q))),(33,U.bool (decide ((0:Int)< ↑q))),(34,.lst .ro 1 (zG L)),(35,.int .i64 ↑q),(36,U.eref [.int .i64 x] 0),(37,.int .i64 x),(38,.lst .ro 1 (zG L)),(39,.int .i64 ↑q),(40,.int .i64 (↑q - (1:Int))),(41,U.eref [.int .i64 y] 0)] [] (SB.box (Bk.cs b)::SB.box (Pl.cs p)::SB.box [.int .i64 0,.int .i64 0]::SB.box [.int .i64 l,.int .i64 g]::List.append [] e) (.c4 rfl rfl rfl rfl (.c4 rfl rfl rfl rfl (.c4 rfl rfl rfl rfl (.c4 rfl rfl rfl rfl (.cons rfl (.cons rfl (.cons rfl (.nil rfl)))))))) rfl rfl fun fr=>?_
    refine d_gD rfl rfl rfl rfl (decide_eq_true (by omega)) ?_
    refine yI [(1,.lst .ro 1 (zG L)),(3,.int .i64 ↑m),(4,U.box 0 0),(6,U.box 1 0),(8,U.box 2 0),(9,U.box 3 0),(10,.int .i64 ↑n),(11,.int .i64 ↑q),(30,.int .i64 ↑q),(31,U.bool (decide ((0:Int)< ↑q))),(33,U.bool (decide ((0:Int)< ↑q))),(34,.lst .ro 1 (zG L)),(35,.int .i64 ↑q),(36,U.eref [.int .i64 x] 0),(37,.int .i64 x),(38,.lst .ro 1 (zG L)),(39,.int .i64 ↑q),(40,.int .i64 (↑q - (1:Int))),(41,U.eref [.int .i64 y] 0)] [] (SB.box (Bk.cs b)::SB.box (Pl.cs p)::SB.box [.int .i64 0,.int .i64 0]::SB.box [.int .i64 l,.int .i64 g]::List.append [] e) (.c4 rfl rfl rfl rfl (.c4 rfl rfl rfl rfl (.c4 rfl rfl rfl rfl (.c4 rfl rfl rfl rfl (.cons rfl (.cons rfl (.cons rfl (.nil rfl)))))))) rfl rfl fun fr=>?_
    refine zR rfl (zT rfl rfl sh3 rfl (zA rfl)) ?_
    refine d_gD rfl rfl rfl rfl (decide_eq_true (by omega)) ?_
    refine zD (wC rfl rfl rfl (zA rfl)) ?_
    refine zD (za rfl rfl (decide_eq_true (by omega)) (zA rfl)) ?_
    refine yw ?_
    refine zH [(1,.lst .ro 1 (zG L)),(3,.int .i64 ↑m),(4,U.box 0 0),(6,U.box 1 0),(8,U.box 2 0),(9,U.box 3 0),(10,.int .i64 ↑n),(11,.int .i64 ↑q),(30,.int .i64 ↑q),(31,U.bool (decide ((0:Int)< ↑q))),(34,.lst .ro 1 (zG L)),(35,.int .i64 ↑q),(36,U.eref [.int .i64 x] 0),(37,.int .i64 x),(38,.lst .ro 1 (zG L)),(39,.int .i64 ↑q),(40,.int .i64 (↑q - (1:Int))),(41,U.eref [.int .i64 y] 0),(42,.int .i64 y),(43,U.bool (decide (x≠y))),(44,U.bool (decide (x≠y)))] (SB.box (Bk.cs b)::SB.box (Pl.cs p)::SB.box [.int .i64 0,.int .i64 0]::SB.box [.int .i64 l,.int .i64 g]::List.append [] e) (.c4 rfl rfl rfl rfl (.c4 rfl rfl rfl rfl (.c4 rfl rfl rfl rfl (.c4 rfl rfl rfl rfl (.c4 rfl rfl rfl rfl (.cons rfl (.nil rfl))))))) rfl fun fr=>?_
    refine k_cT rfl (decide_eq_true (by omega)) (k_region (zE rfl rfl wd (zF rfl rfl rfl sh3 rfl (zE rfl rfl zGZ (zE rfl rfl wd (zF rfl rfl rfl sh3 rfl ?_))))))
    refine yO rfl rfl rfl (by unfold I64;omega) (zE rfl rfl wc (zF rfl rfl rfl sh3 rfl (zE rfl rfl zGZ ?_)))
    refine zV [(1,.lst .ro 1 (zG L)),(3,.int .i64 ↑m),(4,U.box 0 0),(6,U.box 1 0),(8,U.box 2 0),(9,U.box 3 0),(10,.int .i64 ↑n),(11,.int .i64 ↑q),(30,.int .i64 ↑q),(31,U.bool (decide ((0:Int)< ↑q))),(34,.lst .ro 1 (zG L)),(35,.int .i64 ↑q),(36,U.eref [.int .i64 x] 0),(37,.int .i64 x),(38,.lst .ro 1 (zG L)),(39,.int .i64 ↑q),(40,.int .i64 (↑q - (1:Int))),(41,U.eref [.int .i64 y] 0),(42,.int .i64 y),(43,U.bool (decide (x≠y))),(50,.int .i64 (l+Bk.slo b)),(52,.int .i64 g),(53,U.box 0 7)] [] (SB.box (Bk.cs b)::SB.box (Pl.cs p)::SB.box [.int .i64 0,.int .i64 0]::SB.box [.int .i64 l,.int .i64 g]::List.append [] e) (.c4 rfl rfl rfl rfl (.c4 rfl rfl rfl rfl (.c4 rfl rfl rfl rfl (.c4 rfl rfl rfl rfl (.c4 rfl rfl rfl rfl (.cons rfl (.cons rfl (.cons rfl (.nil rfl))))))))) rfl rfl fun fr=>?_
    refine zE rfl rfl wc (zF rfl rfl rfl sh3 rfl ?_)
    refine yO rfl rfl rfl (by unfold I64;omega) (zP rfl (ret48 hi (l+b.slo) (g+b.shi)) (.lrefl _) ?_)
    refine zZ rfl rfl sh24 rfl rfl rfl rfl rfl ?_
    refine zA ?_
    exact⟨rfl,by rw[hs1,hs0];rfl,.c4 rfl rfl rfl rfl (.c4 rfl rfl rfl rfl (.nil rfl))⟩
  obtain⟨hst4,hs4⟩:=hM
  refine zH _ _ hs4 hst4 fun fr4=>?_
  refine k_seq (yL [.plain,.read true,.plain,.plain,.plain,.read true,.plain,.read true,.pre,.plain] (by kernel_rfl) (by kernel_rfl) (by kernel_rfl) ?_)
  refine zD (zE rfl rfl zCv (zA rfl)) ?_
  refine zR rfl (zF rfl rfl rfl sh66 rfl (zA rfl)) (zD (zC rfl (zA rfl)) (zD (zC rfl (zA rfl)) (zD (yD (u:=.int .i64 (x)) rfl ty22 rfl rfl (Int.natCast_nonneg _) (by simp[hx]) cl3 (zA rfl)) ?_)))
  refine zR rfl (zT rfl rfl sh3 rfl (zA rfl)) ?_
  refine zD (yD (u:=(c).u) rfl ty66 rfl rfl (by omega) (by simp[hc1]) cl24 (zA rfl)) ?_
  refine zR rfl (wJ rfl rfl sh24 rfl (zA rfl)) ?_
  refine d_pre rfl ze24 ?_
  refine zD (zZ rfl (zp _ _) sh24 rfl rfl rfl rfl rfl (zA rfl)) ?_
  refine yw ?_
  refine zH [(1,.lst .ro 1 (zG L)),(3,.int .i64 ↑m),(4,U.box 0 0),(6,U.box 1 0),(8,U.box 2 0),(9,U.box 3 0),(10,.int .i64 ↑n),(12,U.box (List.length (SB.box (Bk.cs b)::SB.box (Pl.cs p)::SB.box [.int .i64 0,.int .i64 0]::SB.box [.int .i64 (l+s0),.int .i64 (g+s1)]::List.append [] e)) 0)] (SB.box (Bk.cs b)::SB.box (Pl.cs p)::SB.box [.int .i64 0,.int .i64 0]::SB.box [.int .i64 (l+s0),.int .i64 (g+s1)]::List.set (List.append (List.append [] e) [SB.box (zDT (V.cons (V.int .i64 (0:Int)) (V.cons (V.int .i64 (0:Int)) V.nil)))]) (List.length (List.append [] e)) (SB.box [.int .i64 c.a,.int .i64 c.b])) (.c4 rfl rfl rfl rfl (.c4 rfl rfl rfl rfl (.nil rfl))) rfl fun fr=>?_
  refine k_region (zE rfl rfl wd (zF rfl rfl rfl sh3 rfl (zE rfl rfl wc (zF rfl rfl (at_set _ _ _) sh3 rfl ?_))))
  refine yn rfl rfl rfl (by unfold I64;omega) (o_max rfl rfl rfl ?_)
  refine zE rfl rfl wc (zF rfl rfl rfl sh3 rfl (zE rfl rfl wd ?_))
  refine zV [(1,.lst .ro 1 (zG L)),(3,.int .i64 ↑m),(4,U.box 0 0),(6,U.box 1 0),(8,U.box 2 0),(9,U.box 3 0),(10,.int .i64 ↑n),(71,.int .i64 (Max.max (0:Int) (l+s0 - Two.b c))),(73,.int .i64 (g+s1)),(74,U.box (List.length (SB.box (Bk.cs b)::SB.box (Pl.cs p)::SB.box [.int .i64 0,.int .i64 0]::SB.box [.int .i64 (l+s0),.int .i64 (g+s1)]::List.append [] e)) 0)] [] (SB.box (Bk.cs b)::SB.box (Pl.cs p)::SB.box [.int .i64 0,.int .i64 0]::SB.box [.int .i64 (l+s0),.int .i64 (g+s1)]::List.set (List.append (List.append [] e) [SB.box (zDT (V.cons (V.int .i64 (0:Int)) (V.cons (V.int .i64 (0:Int)) V.nil)))]) (List.length (List.append [] e)) (SB.box [.int .i64 c.a,.int .i64 c.b])) (.c4 rfl rfl rfl rfl (.c4 rfl rfl rfl rfl (.cons rfl (.cons rfl (.nil rfl))))) rfl rfl fun fr=>?_
  refine zF rfl rfl (at_set _ _ _) sh3 rfl ?_
  refine yn rfl rfl rfl (by unfold I64;omega) (o_max rfl rfl rfl ?_)
  refine zP rfl (ret48 hi (max 0 (l+s0 - c.b)) (max 0 (g+s1 - c.a))) (.lrefl _) ?_
  refine zZ rfl rfl sh24 rfl rfl rfl rfl rfl ?_
  refine zA ?_
  refine zH [(1,.lst .ro 1 (zG L)),(3,.int .i64 ↑m),(4,U.box 0 0),(6,U.box 1 0),(8,U.box 2 0),(9,U.box 3 0),(10,.int .i64 ↑n)] (SB.box (Bk.cs b)::SB.box (Pl.cs p)::SB.box [.int .i64 0,.int .i64 0]::SB.box [.int .i64 (Max.max (0:Int) (l+s0 - Two.b c)),.int .i64 (Max.max (0:Int) (g+s1 - Two.a c))]::List.set (List.append (List.append [] e) [SB.box (zDT (V.cons (V.int .i64 (0:Int)) (V.cons (V.int .i64 (0:Int)) V.nil)))]) (List.length (List.append [] e)) (SB.box [.int .i64 c.a,.int .i64 c.b])) (.c4 rfl rfl rfl rfl (.cons rfl (.cons rfl (.cons rfl (.nil rfl))))) rfl fun fr=>?_
  refine k_region (zC rfl ?_)
  refine yO rfl rfl rfl (by unfold I64;omega) (zB rfl (zA ?_))
  exact⟨kk - 1,by omega,n+1,by omega,⟨e++[.box [.int .i64 c.a,.int .i64 c.b]],by
   show(((Y68 b p (l+s0) (g+s1)++e)++[SB.box _]).set (Y68 b p (l+s0) (g+s1)++e).length (SB.box _)).set 3 _=_
   rw[yx,List.append_assoc,et1,et2];rfl⟩,.c4 rfl rfl rfl rfl (.cons rfl (.cons rfl (.cons rfl (.nil rfl))))⟩
 ·have hie:n=m:=by omega
  subst hie
  refine zH _ _ hs2 hst2 fun fr2=>?_
  refine k_seq (kQ (zC rfl (zC rfl (zf rfl rfl rfl (zA (k_cF rfl (decide_eq_false (by omega)) (yP (kQ ?_))))))))
  refine zJ rfl rfl rfl sh24 rfl (zZ rfl rfl sh24 rfl rfl rfl rfl rfl ?_)
  refine zA (zU ?_)
  refine⟨.inr rfl,_,.cons _ _ _ _ (.cellN 8 24 _ _ _ _ rfl rfl sh24 rfl) .nil,?_⟩
  exact .refl _
  done
end Go.Proofs.YtfbmlibilcjlgaaDoor.drumBounds
