import Derived.Test.YtfbmlibilcjlgaaDoorVamT13
set_option linter.unusedVariables false
set_option linter.unusedSimpArgs false
set_option linter.constructorNameAsVariable false
namespace Go.Proofs.YtfbmlibilcjlgaaDoor.drumPaths
open Vam
variable {is:FuncId→Bool}{orc:Known}{b:Bk}
noncomputable def b20:Code:=(Tryd.f20.body).getD .skip
theorem body20:bodyOf Tryd.prog 20=some (50,b20,[.cell 8 24,.tmp 9]):=by kernel_rfl
theorem pure20:pureFn Tryd.prog 20=true:=by kernel_rfl
noncomputable def b22:Code:=(Tryd.f22.body).getD .skip
theorem body22:bodyOf Tryd.prog 22=some (45,b22,[.tmp 4,.tmp 5]):=by kernel_rfl
theorem pure22:pureFn Tryd.prog 22=true:=by kernel_rfl
def askL(b:Bk)(L:List Int)(pl bt:Int):Bool:=zAf b L&&((decide (0≤pl)&&decide (pl<b.players.length))&&(decide (0≤bt)&&decide (bt≤b.parts*b.size)))
def errL(b:Bk)(L:List Int)(pl bt:Int):Int:=if wU b=false then 80 else if askL b L pl bt=false then 81 else 0
set_option maxHeartbeats 8000000 in
theorem wpc61n(hi:Off is){l:List Int}(hb:BOk b){pl bt:Int}(h:askL b l pl bt=false){st:List SB}{j k m:Nat}(hj:st[j]? =some (.box [.lst .ro 1 (zE l)]))(hk:st[k]? =some (.box [.int .i64 pl]))(hm:st[m]? =some (.box [.int .i64 bt])):WpC Tryd.prog is orc 61 [b.u,.box j 0,.box k 0,.box m 0] st fun u st'=>u=.bool false∧∃e,st'=st++e:=by
 refine zEN body61 pure61 rfl rfl ?_
 have q62:=ret62g (orc:=orc) hi hb l
 have q63:=ret63 (orc:=orc) hi b pl
 have q64:=ret64 (orc:=orc) hi hb bt
 unfold askL at h
 generalize zAf b l=z1 at*
 generalize (decide (0≤pl)&&decide (pl<b.players.length))=z2 at*
 generalize (decide (0≤bt)&&decide (bt≤b.parts*b.size))=z3 at*
 cases z1 with
 |false=>
  refine kQ (ze rfl rfl (zC rfl (zA ?_)))
  refine zL [(1,U.box j 0),(2,U.box k 0),(3,U.box m 0),(4,U.box (List.length st) 0)] (st++[SB.box [.int .i64 (Bk.parts b),.int .i64 (Bk.size b),.lst .ro 1 (zE (Bk.beats b)),.int .i64 (Bk.start b),.int .i64 (Bk.fin b),.int .i64 (Bk.tlo b),.int .i64 (Bk.thi b),.int .i64 (Bk.slo b),.int .i64 (Bk.shi b),.int .i64 (Bk.notice b),.lst .ro 3 (plsU (Bk.players b))]]) (.c4 rfl rfl rfl rfl (.nil rfl)) rfl fun fr=>?_
  refine kQ (zJ rfl rfl (zq _ _) sh75 rfl ?_)
  refine zG rfl rfl (zp hj) sh22 rfl ?_
  refine zO rfl (q62) (.lrefl _) (zB rfl (o_gS rfl rfl rfl rfl rfl (o_gS rfl rfl rfl rfl rfl (o_gS rfl rfl rfl rfl rfl (zK rfl rfl rfl ?_)))))
  refine zB rfl ?_
  refine zP [(3,U.box m 0),(4,U.box (List.length st) 0),(14,.bool false)] [] (st++[SB.box [.int .i64 (Bk.parts b),.int .i64 (Bk.size b),.lst .ro 1 (zE (Bk.beats b)),.int .i64 (Bk.start b),.int .i64 (Bk.fin b),.int .i64 (Bk.tlo b),.int .i64 (Bk.thi b),.int .i64 (Bk.slo b),.int .i64 (Bk.shi b),.int .i64 (Bk.notice b),.lst .ro 3 (plsU (Bk.players b))]]) (.cons rfl (.cons rfl (.cons rfl (.nil rfl)))) rfl rfl fun fr=>?_
  refine o_gS rfl rfl rfl rfl rfl (o_gS rfl rfl rfl rfl rfl (o_gS rfl rfl rfl rfl rfl (zK rfl rfl rfl ?_)))
  refine zC rfl (zA (zY ?_))
  refine⟨.inr rfl,_,.cons _ _ _ _ (.tmp 5) .nil,?_⟩
  exact⟨_,.refl _,rfl,_,rfl⟩
 |true=>
  cases z2 with
  |false=>
   refine kQ (ze rfl rfl (zC rfl (zA ?_)))
   refine zL [(1,U.box j 0),(2,U.box k 0),(3,U.box m 0),(4,U.box (List.length st) 0)] (st++[SB.box [.int .i64 (Bk.parts b),.int .i64 (Bk.size b),.lst .ro 1 (zE (Bk.beats b)),.int .i64 (Bk.start b),.int .i64 (Bk.fin b),.int .i64 (Bk.tlo b),.int .i64 (Bk.thi b),.int .i64 (Bk.slo b),.int .i64 (Bk.shi b),.int .i64 (Bk.notice b),.lst .ro 3 (plsU (Bk.players b))]]) (.c4 rfl rfl rfl rfl (.nil rfl)) rfl fun fr=>?_
   refine kQ (zJ rfl rfl (zq _ _) sh75 rfl ?_)
   refine zG rfl rfl (zp hj) sh22 rfl ?_
   refine zO rfl (q62) (.lrefl _) (zB rfl (o_gD rfl rfl rfl rfl rfl (zJ rfl rfl (zq _ _) sh75 rfl ?_)))
   refine o_gD rfl rfl rfl rfl rfl (zG rfl rfl (zp hk) sh3 rfl ?_)
   refine o_gD rfl rfl rfl rfl rfl (zO rfl (q63) (.lrefl _) (zV rfl rfl rfl ?_))
   refine zB rfl ?_
   refine zP [(3,U.box m 0),(4,U.box (List.length st) 0),(14,.bool false)] [] (st++[SB.box [.int .i64 (Bk.parts b),.int .i64 (Bk.size b),.lst .ro 1 (zE (Bk.beats b)),.int .i64 (Bk.start b),.int .i64 (Bk.fin b),.int .i64 (Bk.tlo b),.int .i64 (Bk.thi b),.int .i64 (Bk.slo b),.int .i64 (Bk.shi b),.int .i64 (Bk.notice b),.lst .ro 3 (plsU (Bk.players b))]]) (.cons rfl (.cons rfl (.cons rfl (.nil rfl)))) rfl rfl fun fr=>?_
   refine o_gS rfl rfl rfl rfl rfl (o_gS rfl rfl rfl rfl rfl (o_gS rfl rfl rfl rfl rfl (zK rfl rfl rfl ?_)))
   refine zC rfl (zA (zY ?_))
   refine⟨.inr rfl,_,.cons _ _ _ _ (.tmp 5) .nil,?_⟩
   exact⟨_,.refl _,rfl,_,rfl⟩
  |true=>
   have h:z3=false:=by simpa using h
   subst h
   refine kQ (ze rfl rfl (zC rfl (zA ?_)))
   refine zL [(1,U.box j 0),(2,U.box k 0),(3,U.box m 0),(4,U.box (List.length st) 0)] (st++[SB.box [.int .i64 (Bk.parts b),.int .i64 (Bk.size b),.lst .ro 1 (zE (Bk.beats b)),.int .i64 (Bk.start b),.int .i64 (Bk.fin b),.int .i64 (Bk.tlo b),.int .i64 (Bk.thi b),.int .i64 (Bk.slo b),.int .i64 (Bk.shi b),.int .i64 (Bk.notice b),.lst .ro 3 (plsU (Bk.players b))]]) (.c4 rfl rfl rfl rfl (.nil rfl)) rfl fun fr=>?_
   refine kQ (zJ rfl rfl (zq _ _) sh75 rfl ?_)
   refine zG rfl rfl (zp hj) sh22 rfl ?_
   refine zO rfl (q62) (.lrefl _) (zB rfl (o_gD rfl rfl rfl rfl rfl (zJ rfl rfl (zq _ _) sh75 rfl ?_)))
   refine o_gD rfl rfl rfl rfl rfl (zG rfl rfl (zp hk) sh3 rfl ?_)
   refine o_gD rfl rfl rfl rfl rfl (zO rfl (q63) (.lrefl _) (zV rfl rfl rfl ?_))
   refine zB rfl ?_
   refine zP [(3,U.box m 0),(4,U.box (List.length st) 0),(14,.bool true)] [] (st++[SB.box [.int .i64 (Bk.parts b),.int .i64 (Bk.size b),.lst .ro 1 (zE (Bk.beats b)),.int .i64 (Bk.start b),.int .i64 (Bk.fin b),.int .i64 (Bk.tlo b),.int .i64 (Bk.thi b),.int .i64 (Bk.slo b),.int .i64 (Bk.shi b),.int .i64 (Bk.notice b),.lst .ro 3 (plsU (Bk.players b))]]) (.cons rfl (.cons rfl (.cons rfl (.nil rfl)))) rfl rfl fun fr=>?_
   refine o_gD rfl rfl rfl rfl rfl ?_
   refine zP [(3,U.box m 0),(4,U.box (List.length st) 0),(14,.bool true)] [] (st++[SB.box [.int .i64 (Bk.parts b),.int .i64 (Bk.size b),.lst .ro 1 (zE (Bk.beats b)),.int .i64 (Bk.start b),.int .i64 (Bk.fin b),.int .i64 (Bk.tlo b),.int .i64 (Bk.thi b),.int .i64 (Bk.slo b),.int .i64 (Bk.shi b),.int .i64 (Bk.notice b),.lst .ro 3 (plsU (Bk.players b))]]) (.cons rfl (.cons rfl (.cons rfl (.nil rfl)))) rfl rfl fun fr=>?_
   refine zJ rfl rfl (zq _ _) sh75 rfl ?_
   refine o_gD rfl rfl rfl rfl rfl (zG rfl rfl (zp hm) sh3 rfl ?_)
   refine o_gD rfl rfl rfl rfl rfl (zO rfl (q64) (.lrefl _) (zV rfl rfl rfl ?_))
   refine zC rfl (zA (zY ?_))
   refine⟨.inr rfl,_,.cons _ _ _ _ (.tmp 5) .nil,?_⟩
   exact⟨_,.refl _,rfl,_,rfl⟩
theorem dat_q19(b:Bk)(L:List Int)(pl bt:Int):∀u∈[b.u,.lst .ro 1 (zE L),.int .i64 pl,.int .i64 bt],Dat 8 u:=fun u hu=>by
 simp only[List.mem_cons,List.not_mem_nil,or_false]at hu
 rcases hu with rfl|rfl|rfl|rfl
 ·exact yZ b 4
 ·exact zi 6 .ro (fun h=>by cases h) 1 L
 ·exact .int _ _ _
 ·exact .int _ _ _
set_option maxHeartbeats 8000000 in
theorem ret19n(hi:Off is){L:List Int}{pl bt:Int}(h:errL b L pl bt≠0):RetP Tryd.prog is orc 19 [b.u,.lst .ro 1 (zE L),.int .i64 pl,.int .i64 bt] (.tup [wA 0 0,.int .i64 (errL b L pl bt)]):=by
 refine yC body19 pure19 (hi 19 (by decide)) rfl rfl (dat_q19 b L pl bt) (.inr ⟨_,rfl,yL (k:=7) (yr _ _ _) (.int _ _ _)⟩) ?_
 unfold errL at h ⊢
 by_cases hv:wU b=false
 ·rw[if_pos hv]
  refine kQ (ze rfl rfl (ze rfl rfl (ze rfl rfl (ze rfl rfl (zd rfl ze24 ?_)))))
  refine zC rfl (zA ?_)
  refine zL [(4,U.box 0 0),(5,U.box 1 0),(6,U.box 2 0),(7,U.box 3 0),(8,U.box 4 0)] ([SB.box [.int .i64 (Bk.parts b),.int .i64 (Bk.size b),.lst .ro 1 (zE (Bk.beats b)),.int .i64 (Bk.start b),.int .i64 (Bk.fin b),.int .i64 (Bk.tlo b),.int .i64 (Bk.thi b),.int .i64 (Bk.slo b),.int .i64 (Bk.shi b),.int .i64 (Bk.notice b),.lst .ro 3 (plsU (Bk.players b))],SB.box [.lst .ro 1 (zE L)],SB.box [.int .i64 pl],SB.box [.int .i64 bt],SB.box [.int .i64 0,.int .i64 0]]) (.c4 rfl rfl rfl rfl (.cons rfl (.nil rfl))) rfl fun fr=>?_
  refine kQ (zJ rfl rfl rfl sh27 rfl ?_)
  refine zFX rfl ?_
  refine zBW (es:=[U.fn 61 [] [U.box 1 0,U.box 2 0,U.box 3 0]]) rfl zEa ze83 cl83 rfl rfl rfl rfl rfl rfl rfl rfl ?_
  refine zDq rfl (wpc60j hi hv) (.lcons _ _ _ _ (.refl _) (.lcons _ _ _ _ (.ro _ _ _) (.lrefl _))) (fun u st1 hM=>?_)
  obtain⟨rfl,e,hY⟩:=hM
  have y4:st1[4]? =some (.box [.int .i64 0,.int .i64 0]):=by rw[hY];rfl
  clear hY
  refine zB rfl (zc rfl rfl rfl (zc rfl rfl rfl (zd rfl ze75 ?_)))
  refine zS rfl (zq _ _) sh75 rfl rfl rfl rfl rfl ?_
  refine zC rfl (zA ?_)
  refine zL [(5,U.box 1 0),(6,U.box 2 0),(7,U.box 3 0),(8,U.box 4 0),(10,U.box (List.length st1) 0),(11,.int .i64 80)] (st1++[SB.box [.int .i64 0,.int .i64 0,.lst .full 0 [],.int .i64 0,.int .i64 0,.int .i64 0,.int .i64 0,.int .i64 0,.int .i64 0,.int .i64 0,.lst .full 0 []]]) (.c4 rfl rfl rfl rfl (.cons rfl (.cons rfl (.nil rfl)))) (wV _ _ _) fun fr=>?_
  refine k_seq (kQ (zB rfl (yz rfl rfl rfl (zA (k_cT rfl rfl ?_)))))
  refine kQ (wD rfl ze24 pl24 rfl rfl ?_)
  refine zB rfl (zS rfl (zp y4) sh24 rfl rfl rfl rfl rfl ?_)
  refine zC rfl (zA (zY ?_))
  exact⟨.inr rfl,_,.cons _ _ _ _ (.cellN 8 24 4 0 2 [.int .i64 0,.int .i64 0] rfl (List.getElem?_set_self (List.getElem?_eq_some_iff.1 (zp y4)).1) sh24 rfl) (.cons _ _ _ _ (.tmp 9) .nil),.refl _⟩
 ·rw[if_neg hv]at h ⊢
  have hb:=(wT b).1 (by simpa using hv)
  by_cases hp:askL b L pl bt=false
  ·rw[if_pos hp]
   refine kQ (ze rfl rfl (ze rfl rfl (ze rfl rfl (ze rfl rfl (zd rfl ze24 ?_)))))
   refine zC rfl (zA ?_)
   refine zL [(4,U.box 0 0),(5,U.box 1 0),(6,U.box 2 0),(7,U.box 3 0),(8,U.box 4 0)] ([SB.box [.int .i64 (Bk.parts b),.int .i64 (Bk.size b),.lst .ro 1 (zE (Bk.beats b)),.int .i64 (Bk.start b),.int .i64 (Bk.fin b),.int .i64 (Bk.tlo b),.int .i64 (Bk.thi b),.int .i64 (Bk.slo b),.int .i64 (Bk.shi b),.int .i64 (Bk.notice b),.lst .ro 3 (plsU (Bk.players b))],SB.box [.lst .ro 1 (zE L)],SB.box [.int .i64 pl],SB.box [.int .i64 bt],SB.box [.int .i64 0,.int .i64 0]]) (.c4 rfl rfl rfl rfl (.cons rfl (.nil rfl))) rfl fun fr=>?_
   refine kQ (zJ rfl rfl rfl sh27 rfl ?_)
   refine zFX rfl ?_
   refine zBW (es:=[U.fn 61 [] [U.box 1 0,U.box 2 0,U.box 3 0]]) rfl zEa ze83 cl83 rfl rfl rfl rfl rfl rfl rfl rfl ?_
   refine zDq rfl (wpc60n hi hb (fun X=>wpc61n hi hb hp (j:=1) (k:=2) (m:=3) (zp rfl) (zp rfl) (zp rfl))) (.lcons _ _ _ _ (.refl _) (.lcons _ _ _ _ (.ro _ _ _) (.lrefl _))) (fun u st1 hM=>?_)
   obtain⟨rfl,e,hY⟩:=hM
   have y4:st1[4]? =some (.box [.int .i64 0,.int .i64 0]):=by rw[hY];rfl
   clear hY
   refine zB rfl (zc rfl rfl rfl (zc rfl rfl rfl (zd rfl ze75 ?_)))
   refine zS rfl (zq _ _) sh75 rfl rfl rfl rfl rfl ?_
   refine zC rfl (zA ?_)
   refine zL [(5,U.box 1 0),(6,U.box 2 0),(7,U.box 3 0),(8,U.box 4 0),(10,U.box (List.length st1) 0),(11,.int .i64 81)] (st1++[SB.box [.int .i64 0,.int .i64 0,.lst .full 0 [],.int .i64 0,.int .i64 0,.int .i64 0,.int .i64 0,.int .i64 0,.int .i64 0,.int .i64 0,.lst .full 0 []]]) (.c4 rfl rfl rfl rfl (.cons rfl (.cons rfl (.nil rfl)))) (wV _ _ _) fun fr=>?_
   refine k_seq (kQ (zB rfl (yz rfl rfl rfl (zA (k_cT rfl rfl ?_)))))
   refine kQ (wD rfl ze24 pl24 rfl rfl ?_)
   refine zB rfl (zS rfl (zp y4) sh24 rfl rfl rfl rfl rfl ?_)
   refine zC rfl (zA (zY ?_))
   exact⟨.inr rfl,_,.cons _ _ _ _ (.cellN 8 24 4 0 2 [.int .i64 0,.int .i64 0] rfl (List.getElem?_set_self (List.getElem?_eq_some_iff.1 (zp y4)).1) sh24 rfl) (.cons _ _ _ _ (.tmp 9) .nil),.refl _⟩
  ·rw[if_neg hp]at h;exact absurd rfl h
theorem err_zeroL{L:List Int}{pl bt:Int}(h:errL b L pl bt=0):∃(_:BOk b) (_:POk b L) (i m:Nat),pl=i∧i<b.players.length∧bt=m∧(m:Int)≤b.parts*b.size:=by
 unfold errL at h
 by_cases hv:wU b=false
 ·rw[if_pos hv]at h;cases h
 ·rw[if_neg hv]at h
  have hb:=(wT b).1 (by simpa using hv)
  by_cases hp:askL b L pl bt=false
  ·rw[if_pos hp]at h;cases h
  ·have hp:askL b L pl bt=true:=by simpa using hp
   unfold askL at hp
   simp only[Bool.and_eq_true,decide_eq_true_eq]at hp
   obtain⟨h1,⟨h2,h3⟩,h4,h5⟩:=hp
   exact⟨hb,(zCh hb).1 h1,pl.toNat,bt.toNat,by omega,by omega,by omega,by omega⟩
def latI(b:Bk)(L:List Int)(pl bt:Int):U:=if errL b L pl bt=0 then wA (aftF b false L bt.toNat pl.toNat) (aftF b true L bt.toNat pl.toNat)else wA 0 0
theorem ret19a(hi:Off is)(b:Bk)(L:List Int)(pl bt:Int):RetP Tryd.prog is orc 19 [b.u,.lst .ro 1 (zE L),.int .i64 pl,.int .i64 bt] (.tup [latI b L pl bt,.int .i64 (errL b L pl bt)]):=by
 unfold latI
 by_cases h:errL b L pl bt=0
 ·rw[if_pos h,h]
  obtain⟨hb,hp,i,m,rfl,h1,rfl,h2⟩:=err_zeroL h
  rw[Int.toNat_natCast,Int.toNat_natCast]
  exact ret19 hi hb hp h1 h2
 ·rw[if_neg h]
  exact ret19n hi h
set_option maxHeartbeats 8000000 in
theorem ret20(hi:Off is)(b:Bk)(L:List Int)(pl bt:Int):RetP Tryd.prog is orc 20 [b.u,.lst .ro 1 (zE L),.int .i64 pl,.int .i64 bt] (.tup [latI b L pl bt,.int .i64 (errL b L pl bt)]):=by
 have hdl:Dat 7 (latI b L pl bt):=by unfold latI;split<;>exact yr _ _ _
 refine yC body20 pure20 (hi 20 (by decide)) rfl rfl (dat_q19 b L pl bt) (.inr ⟨_,rfl,yL (k:=7) hdl (.int _ _ _)⟩) ?_
 have q18:=ret18 (orc:=orc) hi b
 unfold latI errL
 by_cases hv:wU b=false
 ·rw[if_pos hv,if_neg (by decide)]
  rw[if_neg (by rw[hv];decide)]at q18
  refine kQ (ze rfl rfl (zd rfl ze24 ?_))
  refine zC rfl (zA ?_)
  refine zL [(1,.lst .ro 1 (zE L)),(2,.int .i64 pl),(3,.int .i64 bt),(4,U.box 0 0),(8,U.box 1 0)] ([SB.box [.int .i64 (Bk.parts b),.int .i64 (Bk.size b),.lst .ro 1 (zE (Bk.beats b)),.int .i64 (Bk.start b),.int .i64 (Bk.fin b),.int .i64 (Bk.tlo b),.int .i64 (Bk.thi b),.int .i64 (Bk.slo b),.int .i64 (Bk.shi b),.int .i64 (Bk.notice b),.lst .ro 3 (plsU (Bk.players b))],SB.box [.int .i64 0,.int .i64 0]]) (.c4 rfl rfl rfl rfl (.cons rfl (.nil rfl))) rfl fun fr=>?_
  refine k_seq (kQ (zJ rfl rfl rfl sh27 rfl (zO rfl (q18) (.lrefl _) (zC rfl (zA (kQ (zB rfl (yz rfl rfl rfl ?_))))))))
  refine zA (k_cT rfl rfl ?_)
  refine kQ (wD rfl ze24 pl24 rfl rfl ?_)
  refine zB rfl (zS rfl rfl sh24 rfl rfl rfl rfl rfl ?_)
  refine zC rfl (zA (zY ?_))
  refine⟨.inr rfl,_,.cons _ _ _ _ (.cellN 8 24 _ _ _ _ rfl rfl sh24 rfl) (.cons _ _ _ _ (.tmp 9) .nil),?_⟩
  exact .refl _
  done
 ·rw[if_neg hv]
  have hv2:wU b=true:=by simpa using hv
  have hb:=(wT b).1 hv2
  rw[if_pos hv2]at q18
  have hmp:=mul_ps hb
  have q56:=ret56 (orc:=orc) hi hb L
  have q52:=zGD (orc:=orc) hi pl 0 ((b.players.length:Int) - 1)
  have q53:=zGD (orc:=orc) hi bt 0 (b.parts*b.size)
  have hpn:=hb.pn
  have e2:inS 0 ((b.players.length:Int) - 1) pl=(decide (0≤pl)&&decide (pl<b.players.length)):=by
   unfold inS;rw[Bool.eq_iff_iff];simp only[Bool.and_eq_true,decide_eq_true_eq];omega
  have e3:inS 0 (b.parts*b.size) bt=(decide (0≤bt)&&decide (bt≤b.parts*b.size)):=rfl
  have hask:askL b L pl bt=(zAf b L&&(inS 0 ((b.players.length:Int) - 1) pl&&inS 0 (b.parts*b.size) bt)):=by unfold askL;rw[e2,e3]
  by_cases hp:askL b L pl bt=false
  ·rw[if_pos hp,if_neg (by decide)]
   rw[hask]at hp
   generalize zAf b L=z1 at*
   generalize inS 0 ((b.players.length:Int) - 1) pl=z2 at*
   generalize inS 0 (b.parts*b.size) bt=z3 at*
   cases z1 with
   |false=>
    refine kQ (ze rfl rfl (zd rfl ze24 ?_))
    refine zC rfl (zA ?_)
    refine zL [(1,.lst .ro 1 (zE L)),(2,.int .i64 pl),(3,.int .i64 bt),(4,U.box 0 0),(8,U.box 1 0)] ([SB.box [.int .i64 (Bk.parts b),.int .i64 (Bk.size b),.lst .ro 1 (zE (Bk.beats b)),.int .i64 (Bk.start b),.int .i64 (Bk.fin b),.int .i64 (Bk.tlo b),.int .i64 (Bk.thi b),.int .i64 (Bk.slo b),.int .i64 (Bk.shi b),.int .i64 (Bk.notice b),.lst .ro 3 (plsU (Bk.players b))],SB.box [.int .i64 0,.int .i64 0]]) (.c4 rfl rfl rfl rfl (.cons rfl (.nil rfl))) rfl fun fr=>?_
    refine k_seq (kQ (zJ rfl rfl rfl sh27 rfl (zO rfl (q18) (.lrefl _) (zC rfl (zA (kQ (zB rfl (yz rfl rfl rfl ?_))))))))
    refine zA (k_cF rfl rfl ?_)
    refine zT (k_seq (kQ (zJ rfl rfl rfl sh27 rfl (zB rfl (zO rfl (q56) (.lrefl _) (wG rfl rfl (zB rfl (o_gS rfl rfl rfl rfl rfl ?_))))))))
    refine o_gS rfl rfl rfl rfl rfl (o_gS rfl rfl rfl rfl rfl (o_gS rfl rfl rfl rfl rfl ?_))
    refine zP [(1,.lst .ro 1 (zE L)),(2,.int .i64 pl),(3,.int .i64 bt),(4,U.box 0 0),(8,U.box 1 0),(21,U.bool !Bool.false),(22,U.tup []),(25,U.tup [])] [] ([SB.box [.int .i64 (Bk.parts b),.int .i64 (Bk.size b),.lst .ro 1 (zE (Bk.beats b)),.int .i64 (Bk.start b),.int .i64 (Bk.fin b),.int .i64 (Bk.tlo b),.int .i64 (Bk.thi b),.int .i64 (Bk.slo b),.int .i64 (Bk.shi b),.int .i64 (Bk.notice b),.lst .ro 3 (plsU (Bk.players b))],SB.box [.int .i64 0,.int .i64 0]]) (.c4 rfl rfl rfl rfl (.c4 rfl rfl rfl rfl (.nil rfl))) rfl rfl fun fr=>?_
    refine o_gS rfl rfl rfl rfl rfl (o_gS rfl rfl rfl rfl rfl (o_gS rfl rfl rfl rfl rfl (zV rfl rfl rfl ?_)))
    refine zB rfl (o_gS rfl rfl rfl rfl rfl (o_gS rfl rfl rfl rfl rfl (o_gS rfl rfl rfl rfl rfl (o_gS rfl rfl rfl rfl rfl ?_))))
    refine zP [(1,.lst .ro 1 (zE L)),(2,.int .i64 pl),(3,.int .i64 bt),(4,U.box 0 0),(8,U.box 1 0),(30,.bool true),(31,U.tup []),(33,U.tup []),(34,U.tup [])] [] ([SB.box [.int .i64 (Bk.parts b),.int .i64 (Bk.size b),.lst .ro 1 (zE (Bk.beats b)),.int .i64 (Bk.start b),.int .i64 (Bk.fin b),.int .i64 (Bk.tlo b),.int .i64 (Bk.thi b),.int .i64 (Bk.slo b),.int .i64 (Bk.shi b),.int .i64 (Bk.notice b),.lst .ro 3 (plsU (Bk.players b))],SB.box [.int .i64 0,.int .i64 0]]) (.c4 rfl rfl rfl rfl (.c4 rfl rfl rfl rfl (.cons rfl (.nil rfl)))) rfl rfl fun fr=>?_
    refine o_gS rfl rfl rfl rfl rfl (o_gS rfl rfl rfl rfl rfl (o_gS rfl rfl rfl rfl rfl (o_gS rfl rfl rfl rfl rfl (zV rfl rfl rfl ?_))))
    refine zA ?_
    refine zL [(1,.lst .ro 1 (zE L)),(2,.int .i64 pl),(3,.int .i64 bt),(4,U.box 0 0),(8,U.box 1 0),(39,.bool true)] ([SB.box [.int .i64 (Bk.parts b),.int .i64 (Bk.size b),.lst .ro 1 (zE (Bk.beats b)),.int .i64 (Bk.start b),.int .i64 (Bk.fin b),.int .i64 (Bk.tlo b),.int .i64 (Bk.thi b),.int .i64 (Bk.slo b),.int .i64 (Bk.shi b),.int .i64 (Bk.notice b),.lst .ro 3 (plsU (Bk.players b))],SB.box [.int .i64 0,.int .i64 0]]) (.c4 rfl rfl rfl rfl (.cons rfl (.cons rfl (.nil rfl)))) rfl fun fr=>?_
    refine k_cT rfl rfl ?_
    refine kQ (wD rfl ze24 pl24 rfl rfl ?_)
    refine zS rfl rfl sh24 rfl rfl rfl rfl rfl ?_
    refine zC rfl (zA (zY ?_))
    refine⟨.inr rfl,_,.cons _ _ _ _ (.cellN 8 24 _ _ _ _ rfl rfl sh24 rfl) (.cons _ _ _ _ (.tmp 9) .nil),?_⟩
    exact .refl _
    done
   |true=>
    cases z2 with
    |false=>
     refine kQ (ze rfl rfl (zd rfl ze24 ?_))
     refine zC rfl (zA ?_)
     refine zL [(1,.lst .ro 1 (zE L)),(2,.int .i64 pl),(3,.int .i64 bt),(4,U.box 0 0),(8,U.box 1 0)] ([SB.box [.int .i64 (Bk.parts b),.int .i64 (Bk.size b),.lst .ro 1 (zE (Bk.beats b)),.int .i64 (Bk.start b),.int .i64 (Bk.fin b),.int .i64 (Bk.tlo b),.int .i64 (Bk.thi b),.int .i64 (Bk.slo b),.int .i64 (Bk.shi b),.int .i64 (Bk.notice b),.lst .ro 3 (plsU (Bk.players b))],SB.box [.int .i64 0,.int .i64 0]]) (.c4 rfl rfl rfl rfl (.cons rfl (.nil rfl))) rfl fun fr=>?_
     refine k_seq (kQ (zJ rfl rfl rfl sh27 rfl (zO rfl (q18) (.lrefl _) (zC rfl (zA (kQ (zB rfl (yz rfl rfl rfl ?_))))))))
     refine zA (k_cF rfl rfl ?_)
     refine zT (k_seq (kQ (zJ rfl rfl rfl sh27 rfl (zB rfl (zO rfl (q56) (.lrefl _) (wG rfl rfl (zB rfl (o_gD rfl rfl rfl rfl rfl ?_))))))))
     refine zB rfl (o_gD rfl rfl rfl rfl rfl (zF rfl rfl yi (o_gD rfl rfl rfl rfl rfl (zG rfl rfl rfl sh25 rfl (o_gD rfl rfl rfl rfl rfl (yR rfl ty25 rfl (List.length_map _) ?_))))))
     refine zP [(1,.lst .ro 1 (zE L)),(2,.int .i64 pl),(3,.int .i64 bt),(4,U.box 0 0),(8,U.box 1 0),(21,U.bool !Bool.true),(22,.int .i64 pl),(25,.int .i64 ↑(List.length (Bk.players b)))] [] ([SB.box [.int .i64 (Bk.parts b),.int .i64 (Bk.size b),.lst .ro 1 (zE (Bk.beats b)),.int .i64 (Bk.start b),.int .i64 (Bk.fin b),.int .i64 (Bk.tlo b),.int .i64 (Bk.thi b),.int .i64 (Bk.slo b),.int .i64 (Bk.shi b),.int .i64 (Bk.notice b),.lst .ro 3 (plsU (Bk.players b))],SB.box [.int .i64 0,.int .i64 0]]) (.c4 rfl rfl rfl rfl (.c4 rfl rfl rfl rfl (.nil rfl))) rfl rfl fun fr=>?_
     refine o_gD rfl rfl rfl rfl rfl ?_
     refine zP [(1,.lst .ro 1 (zE L)),(2,.int .i64 pl),(3,.int .i64 bt),(4,U.box 0 0),(8,U.box 1 0),(21,U.bool !Bool.true),(22,.int .i64 pl),(25,.int .i64 ↑(List.length (Bk.players b)))] [] ([SB.box [.int .i64 (Bk.parts b),.int .i64 (Bk.size b),.lst .ro 1 (zE (Bk.beats b)),.int .i64 (Bk.start b),.int .i64 (Bk.fin b),.int .i64 (Bk.tlo b),.int .i64 (Bk.thi b),.int .i64 (Bk.slo b),.int .i64 (Bk.shi b),.int .i64 (Bk.notice b),.lst .ro 3 (plsU (Bk.players b))],SB.box [.int .i64 0,.int .i64 0]]) (.c4 rfl rfl rfl rfl (.c4 rfl rfl rfl rfl (.nil rfl))) rfl rfl fun fr=>?_
     refine zCT rfl rfl rfl (by unfold I64;omega) (o_gD rfl rfl rfl rfl rfl (zO rfl (q52) (.lrefl _) (o_gD rfl rfl rfl rfl rfl (wG rfl rfl (zK rfl rfl rfl ?_)))))
     refine zB rfl (o_gS rfl rfl rfl rfl rfl (o_gS rfl rfl rfl rfl rfl (o_gS rfl rfl rfl rfl rfl (o_gS rfl rfl rfl rfl rfl ?_))))
     refine zP [(1,.lst .ro 1 (zE L)),(2,.int .i64 pl),(3,.int .i64 bt),(4,U.box 0 0),(8,U.box 1 0),(30,U.bool !Bool.false),(31,U.tup []),(33,U.tup []),(34,U.tup [])] [] ([SB.box [.int .i64 (Bk.parts b),.int .i64 (Bk.size b),.lst .ro 1 (zE (Bk.beats b)),.int .i64 (Bk.start b),.int .i64 (Bk.fin b),.int .i64 (Bk.tlo b),.int .i64 (Bk.thi b),.int .i64 (Bk.slo b),.int .i64 (Bk.shi b),.int .i64 (Bk.notice b),.lst .ro 3 (plsU (Bk.players b))],SB.box [.int .i64 0,.int .i64 0]]) (.c4 rfl rfl rfl rfl (.c4 rfl rfl rfl rfl (.cons rfl (.nil rfl)))) rfl rfl fun fr=>?_
     refine o_gS rfl rfl rfl rfl rfl (o_gS rfl rfl rfl rfl rfl (o_gS rfl rfl rfl rfl rfl (o_gS rfl rfl rfl rfl rfl (zV rfl rfl rfl ?_))))
     refine zA ?_
     refine zL [(1,.lst .ro 1 (zE L)),(2,.int .i64 pl),(3,.int .i64 bt),(4,U.box 0 0),(8,U.box 1 0),(39,.bool true)] ([SB.box [.int .i64 (Bk.parts b),.int .i64 (Bk.size b),.lst .ro 1 (zE (Bk.beats b)),.int .i64 (Bk.start b),.int .i64 (Bk.fin b),.int .i64 (Bk.tlo b),.int .i64 (Bk.thi b),.int .i64 (Bk.slo b),.int .i64 (Bk.shi b),.int .i64 (Bk.notice b),.lst .ro 3 (plsU (Bk.players b))],SB.box [.int .i64 0,.int .i64 0]]) (.c4 rfl rfl rfl rfl (.cons rfl (.cons rfl (.nil rfl)))) rfl fun fr=>?_
     refine k_cT rfl rfl ?_
     refine kQ (wD rfl ze24 pl24 rfl rfl ?_)
     refine zS rfl rfl sh24 rfl rfl rfl rfl rfl ?_
     refine zC rfl (zA (zY ?_))
     refine⟨.inr rfl,_,.cons _ _ _ _ (.cellN 8 24 _ _ _ _ rfl rfl sh24 rfl) (.cons _ _ _ _ (.tmp 9) .nil),?_⟩
     exact .refl _
     done
    |true=>
     have hp:z3=false:=by simpa using hp
     subst hp
     refine kQ (ze rfl rfl (zd rfl ze24 ?_))
     refine zC rfl (zA ?_)
     refine zL [(1,.lst .ro 1 (zE L)),(2,.int .i64 pl),(3,.int .i64 bt),(4,U.box 0 0),(8,U.box 1 0)] ([SB.box [.int .i64 (Bk.parts b),.int .i64 (Bk.size b),.lst .ro 1 (zE (Bk.beats b)),.int .i64 (Bk.start b),.int .i64 (Bk.fin b),.int .i64 (Bk.tlo b),.int .i64 (Bk.thi b),.int .i64 (Bk.slo b),.int .i64 (Bk.shi b),.int .i64 (Bk.notice b),.lst .ro 3 (plsU (Bk.players b))],SB.box [.int .i64 0,.int .i64 0]]) (.c4 rfl rfl rfl rfl (.cons rfl (.nil rfl))) rfl fun fr=>?_
     refine k_seq (kQ (zJ rfl rfl rfl sh27 rfl (zO rfl (q18) (.lrefl _) (zC rfl (zA (kQ (zB rfl (yz rfl rfl rfl ?_))))))))
     refine zA (k_cF rfl rfl ?_)
     refine zT (k_seq (kQ (zJ rfl rfl rfl sh27 rfl (zB rfl (zO rfl (q56) (.lrefl _) (wG rfl rfl (zB rfl (o_gD rfl rfl rfl rfl rfl ?_))))))))
     refine zB rfl (o_gD rfl rfl rfl rfl rfl (zF rfl rfl yi (o_gD rfl rfl rfl rfl rfl (zG rfl rfl rfl sh25 rfl (o_gD rfl rfl rfl rfl rfl (yR rfl ty25 rfl (List.length_map _) ?_))))))
     refine zP [(1,.lst .ro 1 (zE L)),(2,.int .i64 pl),(3,.int .i64 bt),(4,U.box 0 0),(8,U.box 1 0),(21,U.bool !Bool.true),(22,.int .i64 pl),(25,.int .i64 ↑(List.length (Bk.players b)))] [] ([SB.box [.int .i64 (Bk.parts b),.int .i64 (Bk.size b),.lst .ro 1 (zE (Bk.beats b)),.int .i64 (Bk.start b),.int .i64 (Bk.fin b),.int .i64 (Bk.tlo b),.int .i64 (Bk.thi b),.int .i64 (Bk.slo b),.int .i64 (Bk.shi b),.int .i64 (Bk.notice b),.lst .ro 3 (plsU (Bk.players b))],SB.box [.int .i64 0,.int .i64 0]]) (.c4 rfl rfl rfl rfl (.c4 rfl rfl rfl rfl (.nil rfl))) rfl rfl fun fr=>?_
     refine o_gD rfl rfl rfl rfl rfl ?_
     refine zP [(1,.lst .ro 1 (zE L)),(2,.int .i64 pl),(3,.int .i64 bt),(4,U.box 0 0),(8,U.box 1 0),(21,U.bool !Bool.true),(22,.int .i64 pl),(25,.int .i64 ↑(List.length (Bk.players b)))] [] ([SB.box [.int .i64 (Bk.parts b),.int .i64 (Bk.size b),.lst .ro 1 (zE (Bk.beats b)),.int .i64 (Bk.start b),.int .i64 (Bk.fin b),.int .i64 (Bk.tlo b),.int .i64 (Bk.thi b),.int .i64 (Bk.slo b),.int .i64 (Bk.shi b),.int .i64 (Bk.notice b),.lst .ro 3 (plsU (Bk.players b))],SB.box [.int .i64 0,.int .i64 0]]) (.c4 rfl rfl rfl rfl (.c4 rfl rfl rfl rfl (.nil rfl))) rfl rfl fun fr=>?_
     refine zCT rfl rfl rfl (by unfold I64;omega) (o_gD rfl rfl rfl rfl rfl (zO rfl (q52) (.lrefl _) (o_gD rfl rfl rfl rfl rfl (wG rfl rfl (zK rfl rfl rfl ?_)))))
     refine zB rfl (o_gD rfl rfl rfl rfl rfl (zB rfl (o_gD rfl rfl rfl rfl rfl (zF rfl rfl zAI (o_gD rfl rfl rfl rfl rfl (zG rfl rfl rfl sh3 rfl (o_gD rfl rfl rfl rfl rfl (zF rfl rfl yY ?_))))))))
     refine zP [(1,.lst .ro 1 (zE L)),(2,.int .i64 pl),(3,.int .i64 bt),(4,U.box 0 0),(8,U.box 1 0),(30,U.bool !Bool.true),(31,.int .i64 bt),(33,.int .i64 (Bk.parts b)),(34,U.box 0 1)] [] ([SB.box [.int .i64 (Bk.parts b),.int .i64 (Bk.size b),.lst .ro 1 (zE (Bk.beats b)),.int .i64 (Bk.start b),.int .i64 (Bk.fin b),.int .i64 (Bk.tlo b),.int .i64 (Bk.thi b),.int .i64 (Bk.slo b),.int .i64 (Bk.shi b),.int .i64 (Bk.notice b),.lst .ro 3 (plsU (Bk.players b))],SB.box [.int .i64 0,.int .i64 0]]) (.c4 rfl rfl rfl rfl (.c4 rfl rfl rfl rfl (.cons rfl (.nil rfl)))) rfl rfl fun fr=>?_
     refine o_gD rfl rfl rfl rfl rfl ?_
     refine zP [(1,.lst .ro 1 (zE L)),(2,.int .i64 pl),(3,.int .i64 bt),(4,U.box 0 0),(8,U.box 1 0),(30,U.bool !Bool.true),(31,.int .i64 bt),(33,.int .i64 (Bk.parts b)),(34,U.box 0 1)] [] ([SB.box [.int .i64 (Bk.parts b),.int .i64 (Bk.size b),.lst .ro 1 (zE (Bk.beats b)),.int .i64 (Bk.start b),.int .i64 (Bk.fin b),.int .i64 (Bk.tlo b),.int .i64 (Bk.thi b),.int .i64 (Bk.slo b),.int .i64 (Bk.shi b),.int .i64 (Bk.notice b),.lst .ro 3 (plsU (Bk.players b))],SB.box [.int .i64 0,.int .i64 0]]) (.c4 rfl rfl rfl rfl (.c4 rfl rfl rfl rfl (.cons rfl (.nil rfl)))) rfl rfl fun fr=>?_
     refine zG rfl rfl rfl sh3 rfl (o_gD rfl rfl rfl rfl rfl ?_)
     refine o_mul rfl rfl rfl (by unfold I64;omega) ?_
     refine o_gD rfl rfl rfl rfl rfl (zO rfl (q53) (.lrefl _) (o_gD rfl rfl rfl rfl rfl (wG rfl rfl (zK rfl rfl rfl ?_))))
     refine zA ?_
     refine zL [(1,.lst .ro 1 (zE L)),(2,.int .i64 pl),(3,.int .i64 bt),(4,U.box 0 0),(8,U.box 1 0),(39,U.bool !Bool.false)] ([SB.box [.int .i64 (Bk.parts b),.int .i64 (Bk.size b),.lst .ro 1 (zE (Bk.beats b)),.int .i64 (Bk.start b),.int .i64 (Bk.fin b),.int .i64 (Bk.tlo b),.int .i64 (Bk.thi b),.int .i64 (Bk.slo b),.int .i64 (Bk.shi b),.int .i64 (Bk.notice b),.lst .ro 3 (plsU (Bk.players b))],SB.box [.int .i64 0,.int .i64 0]]) (.c4 rfl rfl rfl rfl (.cons rfl (.cons rfl (.nil rfl)))) rfl fun fr=>?_
     refine k_cT rfl rfl ?_
     refine kQ (wD rfl ze24 pl24 rfl rfl ?_)
     refine zS rfl rfl sh24 rfl rfl rfl rfl rfl ?_
     refine zC rfl (zA (zY ?_))
     refine⟨.inr rfl,_,.cons _ _ _ _ (.cellN 8 24 _ _ _ _ rfl rfl sh24 rfl) (.cons _ _ _ _ (.tmp 9) .nil),?_⟩
     exact .refl _
     done
  ·rw[if_neg hp,if_pos rfl]
   have hp2:askL b L pl bt=true:=by simpa using hp
   rw[hask]at hp2
   simp only[Bool.and_eq_true]at hp2
   obtain⟨g1,g2,g3⟩:=hp2
   have hok:=(zCh hb).1 g1
   have r2:=zBP.1 g2
   have r3:=zBP.1 g3
   rw[g1]at q56
   rw[g2]at q52
   rw[g3]at q53
   obtain⟨i,rfl⟩:∃i:Nat,pl=i:=⟨pl.toNat,by omega⟩
   obtain⟨m,rfl⟩:∃m:Nat,bt=m:=⟨bt.toNat,by omega⟩
   obtain⟨p,hp1⟩:∃p,b.players[i]? =some p:=⟨b.players[i]'(by omega),List.getElem?_eq_getElem (by omega)⟩
   have q68:=ret68 (orc:=orc) hi hb hok hp1 (m:=m) (by omega)
   have ea:∀w,aftF b w L m i=aftI b w L p m:=fun w=>by unfold aftF;rw[hp1]
   rw[Int.toNat_natCast,Int.toNat_natCast,ea,ea]
   refine kQ (ze rfl rfl (zd rfl ze24 ?_))
   refine zC rfl (zA ?_)
   refine zL [(1,.lst .ro 1 (zE L)),(2,.int .i64 ↑i),(3,.int .i64 ↑m),(4,U.box 0 0),(8,U.box 1 0)] ([SB.box [.int .i64 (Bk.parts b),.int .i64 (Bk.size b),.lst .ro 1 (zE (Bk.beats b)),.int .i64 (Bk.start b),.int .i64 (Bk.fin b),.int .i64 (Bk.tlo b),.int .i64 (Bk.thi b),.int .i64 (Bk.slo b),.int .i64 (Bk.shi b),.int .i64 (Bk.notice b),.lst .ro 3 (plsU (Bk.players b))],SB.box [.int .i64 0,.int .i64 0]]) (.c4 rfl rfl rfl rfl (.cons rfl (.nil rfl))) rfl fun fr=>?_
   refine k_seq (kQ (zJ rfl rfl rfl sh27 rfl (zO rfl (q18) (.lrefl _) (zC rfl (zA (kQ (zB rfl (yz rfl rfl rfl ?_))))))))
   refine zA (k_cF rfl rfl ?_)
   refine zT (k_seq (kQ (zJ rfl rfl rfl sh27 rfl (zB rfl (zO rfl (q56) (.lrefl _) (wG rfl rfl (zB rfl (o_gD rfl rfl rfl rfl rfl ?_))))))))
   refine zB rfl (o_gD rfl rfl rfl rfl rfl (zF rfl rfl yi (o_gD rfl rfl rfl rfl rfl (zG rfl rfl rfl sh25 rfl (o_gD rfl rfl rfl rfl rfl (yR rfl ty25 rfl (List.length_map _) ?_))))))
   refine zP [(1,.lst .ro 1 (zE L)),(2,.int .i64 ↑i),(3,.int .i64 ↑m),(4,U.box 0 0),(8,U.box 1 0),(21,U.bool !Bool.true),(22,.int .i64 ↑i),(25,.int .i64 ↑(List.length (Bk.players b)))] [] ([SB.box [.int .i64 (Bk.parts b),.int .i64 (Bk.size b),.lst .ro 1 (zE (Bk.beats b)),.int .i64 (Bk.start b),.int .i64 (Bk.fin b),.int .i64 (Bk.tlo b),.int .i64 (Bk.thi b),.int .i64 (Bk.slo b),.int .i64 (Bk.shi b),.int .i64 (Bk.notice b),.lst .ro 3 (plsU (Bk.players b))],SB.box [.int .i64 0,.int .i64 0]]) (.c4 rfl rfl rfl rfl (.c4 rfl rfl rfl rfl (.nil rfl))) rfl rfl fun fr=>?_
   refine o_gD rfl rfl rfl rfl rfl ?_
   refine zP [(1,.lst .ro 1 (zE L)),(2,.int .i64 ↑i),(3,.int .i64 ↑m),(4,U.box 0 0),(8,U.box 1 0),(21,U.bool !Bool.true),(22,.int .i64 ↑i),(25,.int .i64 ↑(List.length (Bk.players b)))] [] ([SB.box [.int .i64 (Bk.parts b),.int .i64 (Bk.size b),.lst .ro 1 (zE (Bk.beats b)),.int .i64 (Bk.start b),.int .i64 (Bk.fin b),.int .i64 (Bk.tlo b),.int .i64 (Bk.thi b),.int .i64 (Bk.slo b),.int .i64 (Bk.shi b),.int .i64 (Bk.notice b),.lst .ro 3 (plsU (Bk.players b))],SB.box [.int .i64 0,.int .i64 0]]) (.c4 rfl rfl rfl rfl (.c4 rfl rfl rfl rfl (.nil rfl))) rfl rfl fun fr=>?_
   refine zCT rfl rfl rfl (by unfold I64;omega) (o_gD rfl rfl rfl rfl rfl (zO rfl (q52) (.lrefl _) (o_gD rfl rfl rfl rfl rfl (wG rfl rfl (zK rfl rfl rfl ?_)))))
   refine zB rfl (o_gD rfl rfl rfl rfl rfl (zB rfl (o_gD rfl rfl rfl rfl rfl (zF rfl rfl zAI (o_gD rfl rfl rfl rfl rfl (zG rfl rfl rfl sh3 rfl (o_gD rfl rfl rfl rfl rfl (zF rfl rfl yY ?_))))))))
   refine zP [(1,.lst .ro 1 (zE L)),(2,.int .i64 ↑i),(3,.int .i64 ↑m),(4,U.box 0 0),(8,U.box 1 0),(30,U.bool !Bool.true),(31,.int .i64 ↑m),(33,.int .i64 (Bk.parts b)),(34,U.box 0 1)] [] ([SB.box [.int .i64 (Bk.parts b),.int .i64 (Bk.size b),.lst .ro 1 (zE (Bk.beats b)),.int .i64 (Bk.start b),.int .i64 (Bk.fin b),.int .i64 (Bk.tlo b),.int .i64 (Bk.thi b),.int .i64 (Bk.slo b),.int .i64 (Bk.shi b),.int .i64 (Bk.notice b),.lst .ro 3 (plsU (Bk.players b))],SB.box [.int .i64 0,.int .i64 0]]) (.c4 rfl rfl rfl rfl (.c4 rfl rfl rfl rfl (.cons rfl (.nil rfl)))) rfl rfl fun fr=>?_
   refine o_gD rfl rfl rfl rfl rfl ?_
   refine zP [(1,.lst .ro 1 (zE L)),(2,.int .i64 ↑i),(3,.int .i64 ↑m),(4,U.box 0 0),(8,U.box 1 0),(30,U.bool !Bool.true),(31,.int .i64 ↑m),(33,.int .i64 (Bk.parts b)),(34,U.box 0 1)] [] ([SB.box [.int .i64 (Bk.parts b),.int .i64 (Bk.size b),.lst .ro 1 (zE (Bk.beats b)),.int .i64 (Bk.start b),.int .i64 (Bk.fin b),.int .i64 (Bk.tlo b),.int .i64 (Bk.thi b),.int .i64 (Bk.slo b),.int .i64 (Bk.shi b),.int .i64 (Bk.notice b),.lst .ro 3 (plsU (Bk.players b))],SB.box [.int .i64 0,.int .i64 0]]) (.c4 rfl rfl rfl rfl (.c4 rfl rfl rfl rfl (.cons rfl (.nil rfl)))) rfl rfl fun fr=>?_
   refine zG rfl rfl rfl sh3 rfl (o_gD rfl rfl rfl rfl rfl ?_)
   refine o_mul rfl rfl rfl (by unfold I64;omega) ?_
   refine o_gD rfl rfl rfl rfl rfl (zO rfl (q53) (.lrefl _) (o_gD rfl rfl rfl rfl rfl (wG rfl rfl (zK rfl rfl rfl ?_))))
   refine zA ?_
   refine zL [(1,.lst .ro 1 (zE L)),(2,.int .i64 ↑i),(3,.int .i64 ↑m),(4,U.box 0 0),(8,U.box 1 0),(39,U.bool !Bool.true)] ([SB.box [.int .i64 (Bk.parts b),.int .i64 (Bk.size b),.lst .ro 1 (zE (Bk.beats b)),.int .i64 (Bk.start b),.int .i64 (Bk.fin b),.int .i64 (Bk.tlo b),.int .i64 (Bk.thi b),.int .i64 (Bk.slo b),.int .i64 (Bk.shi b),.int .i64 (Bk.notice b),.lst .ro 3 (plsU (Bk.players b))],SB.box [.int .i64 0,.int .i64 0]]) (.c4 rfl rfl rfl rfl (.cons rfl (.cons rfl (.nil rfl)))) rfl fun fr=>?_
   refine k_cF rfl rfl ?_
   refine zT (k_seq (ym [.read true,.plain,.plain,.read true,.plain,.plain,.read true,.plain,.plain,.plain,.plain] (by kernel_rfl) (by kernel_rfl) (by kernel_rfl) ?_))
   refine zX rfl (zJ rfl rfl rfl sh27 rfl (zA rfl)) ?_
   refine zD (zB rfl (zA rfl)) (zD (zF rfl rfl yi (zA rfl)) ?_)
   refine zX rfl (zG rfl rfl rfl sh25 rfl (zA rfl)) (zD (zB rfl (zA rfl)) (zD (yg (u:=(p).u) rfl ty25 rfl rfl (Int.natCast_nonneg _) (by simp[hp1]) cl68 (zA rfl)) ?_))
   refine zX rfl (wK rfl rfl sh68 rfl (zA rfl)) ?_
   refine zD (zB rfl (zA rfl)) (zD (zO rfl (q68) (.lrefl _) (zA rfl)) ?_)
   refine zD (zS rfl rfl sh24 rfl rfl rfl rfl rfl (zA rfl)) ?_
   refine zD (zC rfl (zA rfl)) ?_
   refine zAA ?_
   refine zY ?_
   refine⟨.inr rfl,_,.cons _ _ _ _ (.cellN 8 24 _ _ _ _ rfl rfl sh24 rfl) (.cons _ _ _ _ (.tmp 9) .nil),?_⟩
   exact .refl _
   done
end Go.Proofs.YtfbmlibilcjlgaaDoor.drumPaths
