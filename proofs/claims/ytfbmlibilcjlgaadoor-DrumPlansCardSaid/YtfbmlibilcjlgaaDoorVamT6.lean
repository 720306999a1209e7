import Derived.Test.YtfbmlibilcjlgaaDoorVamT5
set_option linter.unusedVariables false
set_option linter.unusedSimpArgs false
set_option linter.constructorNameAsVariable false
namespace Go.Proofs.YtfbmlibilcjlgaaDoor.drumPlans
open Vam
section
variable {is:FuncId→Bool}{orc:Known}
noncomputable def b95:Code:=(Tryd.f95.body).getD .skip
theorem body95:bodyOf Tryd.prog 95=some (10,b95,[.tmp 2]):=by kernel_rfl
theorem pure95:pureFn Tryd.prog 95=true:=by kernel_rfl
theorem mul_ps{b:Bk}(hb:BOk b):1≤b.parts*b.size∧b.parts*b.size≤128:=by
 have hp:=hb.pa
 have hs:=hb.sz
 constructor
 ·have:=Int.mul_le_mul hp.1 hs.1 (by omega) (by omega)
  omega
 ·have:=Int.mul_le_mul hp.2 hs.2 (by omega) (by omega)
  omega
theorem ret95(hi:Off is){b:Bk}(hb:BOk b):RetP Tryd.prog is orc 95 [b.u] (.int .i64 (b.parts*b.size)):=by
 refine zp body95 pure95 (hi 95 (by decide)) rfl rfl (wS (yM b 4)) (.inl (.int _ _ _)) ?_
 have:=mul_ps hb
 refine kQ (zl rfl rfl (zB rfl (zA ?_)))
 refine zJ [(1,U.box 0 0)] ([SB.box [.int .i64 (Bk.parts b),.int .i64 (Bk.size b),.lst .ro 1 (zE (Bk.beats b)),.int .i64 (Bk.start b),.int .i64 (Bk.fin b),.int .i64 (Bk.tlo b),.int .i64 (Bk.thi b),.int .i64 (Bk.slo b),.int .i64 (Bk.shi b),.int .i64 (Bk.notice b),.lst .ro 3 (plsU (Bk.players b))]]) (.cons rfl (.nil rfl)) rfl fun fr=>?_
 refine kQ (zF rfl rfl ya (zF rfl rfl wN (zG rfl rfl rfl sh3 rfl (zF rfl rfl ya (zF rfl rfl yl (zG rfl rfl rfl sh3 rfl ?_))))))
 refine o_mul rfl rfl rfl (by unfold I64;omega) ?_
 refine zB rfl (zA (zV ?_))
 refine⟨.inr rfl,_,.cons _ _ _ _ (.tmp 2) .nil,?_⟩
 exact .refl _
set_option maxHeartbeats 8000000 in
theorem wpc60z(hi:Off is){b:Bk}(hb:BOk b){st:List SB}:WpC Tryd.prog is orc 60 [b.u,.lst .full 0 []] st fun u st'=>u=.tup [b.u,.int .i64 0]∧∃e,st'=st++e:=by
 refine zDj body60 pure60 rfl rfl ?_
 have q17:=ret17 (orc:=orc) hi b
 rw[if_pos ((wR b).2 hb)]at q17
 refine kQ (zl rfl rfl (zo rfl ze75 ?_))
 refine zB rfl (zA ?_)
 refine zJ [(1,.lst .full 0 []),(2,U.box (List.length st) 0),(4,U.box (List.length (st++[SB.box [.int .i64 (Bk.parts b),.int .i64 (Bk.size b),.lst .ro 1 (zE (Bk.beats b)),.int .i64 (Bk.start b),.int .i64 (Bk.fin b),.int .i64 (Bk.tlo b),.int .i64 (Bk.thi b),.int .i64 (Bk.slo b),.int .i64 (Bk.shi b),.int .i64 (Bk.notice b),.lst .ro 3 (plsU (Bk.players b))]])) 0)] (st++[SB.box [.int .i64 (Bk.parts b),.int .i64 (Bk.size b),.lst .ro 1 (zE (Bk.beats b)),.int .i64 (Bk.start b),.int .i64 (Bk.fin b),.int .i64 (Bk.tlo b),.int .i64 (Bk.thi b),.int .i64 (Bk.slo b),.int .i64 (Bk.shi b),.int .i64 (Bk.notice b),.lst .ro 3 (plsU (Bk.players b))]]++[SB.box [.int .i64 0,.int .i64 0,.lst .full 0 [],.int .i64 0,.int .i64 0,.int .i64 0,.int .i64 0,.int .i64 0,.int .i64 0,.int .i64 0,.lst .full 0 []]]) (.cons rfl (.cons rfl (.cons rfl (.nil rfl)))) rfl fun fr=>?_
 refine k_seq (kQ (zM rfl rfl (ye (zu _ _)) sh27 rfl ?_))
 refine zP rfl (q17) (.lrefl _) (zB rfl (zA (kQ (zC rfl (wB rfl rfl rfl (zA (k_cF rfl rfl ?_)))))))
 refine zR (kQ (zM rfl rfl (ye (zu _ _)) sh27 rfl ?_))
 refine zAn rfl ze75 pl75 rfl rfl ?_
 refine zo rfl ze75 ?_
 refine ze rfl (zu _ _) sh75 rfl rfl rfl rfl rfl ?_
 refine zA ?_
 refine zJ [(1,.lst .full 0 []),(4,U.box (List.length (st++[SB.box [.int .i64 (Bk.parts b),.int .i64 (Bk.size b),.lst .ro 1 (zE (Bk.beats b)),.int .i64 (Bk.start b),.int .i64 (Bk.fin b),.int .i64 (Bk.tlo b),.int .i64 (Bk.thi b),.int .i64 (Bk.slo b),.int .i64 (Bk.shi b),.int .i64 (Bk.notice b),.lst .ro 3 (plsU (Bk.players b))]])) 0),(7,U.box (List.length (st++[SB.box [.int .i64 (Bk.parts b),.int .i64 (Bk.size b),.lst .ro 1 (zE (Bk.beats b)),.int .i64 (Bk.start b),.int .i64 (Bk.fin b),.int .i64 (Bk.tlo b),.int .i64 (Bk.thi b),.int .i64 (Bk.slo b),.int .i64 (Bk.shi b),.int .i64 (Bk.notice b),.lst .ro 3 (plsU (Bk.players b))]]++[SB.box [.int .i64 0,.int .i64 0,.lst .full 0 [],.int .i64 0,.int .i64 0,.int .i64 0,.int .i64 0,.int .i64 0,.int .i64 0,.int .i64 0,.lst .full 0 []]])) 0)] (st++[SB.box [.int .i64 (Bk.parts b),.int .i64 (Bk.size b),.lst .ro 1 (zE (Bk.beats b)),.int .i64 (Bk.start b),.int .i64 (Bk.fin b),.int .i64 (Bk.tlo b),.int .i64 (Bk.thi b),.int .i64 (Bk.slo b),.int .i64 (Bk.shi b),.int .i64 (Bk.notice b),.lst .ro 3 (plsU (Bk.players b))]]++[SB.box [.int .i64 0,.int .i64 0,.lst .full 0 [],.int .i64 0,.int .i64 0,.int .i64 0,.int .i64 0,.int .i64 0,.int .i64 0,.int .i64 0,.lst .full 0 []]]++[SB.box [.int .i64 (Bk.parts b),.int .i64 (Bk.size b),.lst .ro 1 (zE (Bk.beats b)),.int .i64 (Bk.start b),.int .i64 (Bk.fin b),.int .i64 (Bk.tlo b),.int .i64 (Bk.thi b),.int .i64 (Bk.slo b),.int .i64 (Bk.shi b),.int .i64 (Bk.notice b),.lst .ro 3 (plsU (Bk.players b))]]) (.cons rfl (.cons rfl (.cons rfl (.nil rfl)))) (yr _ _ _) fun fr=>?_
 refine k_seq (kQ (zC rfl (yA rfl ty116 rfl rfl ?_)))
 refine zC rfl (zA (zN ?_))
 refine yd (fun kk s2=>∃X:List SB,s2.st=st++X∧X[1]? =some (.box [.int .i64 0,.int .i64 0,.lst .full 0 [],.int .i64 0,.int .i64 0,.int .i64 0,.int .i64 0,.int .i64 0,.int .i64 0,.int .i64 0,.lst .full 0 []])∧X[2]? =some (.box [.int .i64 b.parts,.int .i64 b.size,.lst .ro 1 (zE b.beats),.int .i64 b.start,.int .i64 b.fin,.int .i64 b.tlo,.int .i64 b.thi,.int .i64 b.slo,.int .i64 b.shi,.int .i64 b.notice,.lst .ro 3 (plsU b.players)])∧kk=0∧Holds s2 [(4,.box (st.length+1) 0),(7,.box (st.length+2) 0),(18,.lst .full 0 []),(19,.int .i64 0),(20,.int .i64 0)]) (fun kk s2 hI=>?_) 0 _ ⟨[.box [.int .i64 b.parts,.int .i64 b.size,.lst .ro 1 (zE b.beats),.int .i64 b.start,.int .i64 b.fin,.int .i64 b.tlo,.int .i64 b.thi,.int .i64 b.slo,.int .i64 b.shi,.int .i64 b.notice,.lst .ro 3 (plsU b.players)],.box [.int .i64 0,.int .i64 0,.lst .full 0 [],.int .i64 0,.int .i64 0,.int .i64 0,.int .i64 0,.int .i64 0,.int .i64 0,.int .i64 0,.lst .full 0 []],.box [.int .i64 b.parts,.int .i64 b.size,.lst .ro 1 (zE b.beats),.int .i64 b.start,.int .i64 b.fin,.int .i64 b.tlo,.int .i64 b.thi,.int .i64 b.slo,.int .i64 b.shi,.int .i64 b.notice,.lst .ro 3 (plsU b.players)]],(by show((st++[SB.box _])++[SB.box _])++[SB.box _]=_;rw[List.append_assoc,List.append_assoc];rfl),rfl,rfl,rfl,.cons (by show U.box (st++[SB.box _]).length 0=_;simp) (.cons (by show U.box ((st++[SB.box _])++[SB.box _]).length 0=_;simp) (.cons rfl (.cons rfl (.cons rfl (.nil rfl)))))⟩
 obtain⟨X,hst2,x1,x2,hk,hs2⟩:=hI
 have y1:=at_off (st:=st) x1
 have y2:=at_off (st:=st) x2
 refine zJ _ _ hs2 hst2 fun fr2=>?_
 have hl:st.length+1<(st++X).length:=(List.getElem?_eq_some_iff.1 y1).1
 refine kQ (zh rfl rfl rfl (zA (k_seq (k_cF rfl rfl ?_))))
 refine yJ (kQ (zM rfl rfl y2 sh75 rfl ?_))
 refine ze rfl y1 sh75 rfl rfl rfl rfl rfl ?_
 refine zB rfl (zA (zV ?_))
 refine⟨.inr rfl,_,.cons _ _ _ _ (.cellN 4 75 (st.length+1) 0 11 [.int .i64 b.parts,.int .i64 b.size,.lst .ro 1 (zE b.beats),.int .i64 b.start,.int .i64 b.fin,.int .i64 b.tlo,.int .i64 b.thi,.int .i64 b.slo,.int .i64 b.shi,.int .i64 b.notice,.lst .ro 3 (plsU b.players)] rfl (List.getElem?_set_self hl) sh75 rfl) (.cons _ _ _ _ (.tmp 5) .nil),_,.refl _,rfl,_,set_off⟩
end
section
variable {is:FuncId→Bool}{orc:Known}
noncomputable def b102:Code:=(Tryd.f102.body).getD .skip
theorem body102:bodyOf Tryd.prog 102=some (11,b102,[.cell 2 125]):=by kernel_rfl
theorem pure102:pureFn Tryd.prog 102=true:=by kernel_rfl
theorem pl85:zGb Tryd.prog 85=some [(0,1),(1,1),(2,1),(3,1),(4,1)]:=by kernel_rfl
noncomputable def b71:Code:=(Tryd.f71.body).getD .skip
theorem body71:bodyOf Tryd.prog 71=some (33,b71,[.tmp 4]):=by kernel_rfl
theorem pure71:pureFn Tryd.prog 71=true:=by kernel_rfl
noncomputable def b25:Code:=(Tryd.f25.body).getD .skip
theorem body25:bodyOf Tryd.prog 25=some (24,b25,[.tmp 4,.tmp 5]):=by kernel_rfl
theorem pure25:pureFn Tryd.prog 25=true:=by kernel_rfl
theorem toNat_ps{b:Bk}(hb:BOk b):((b.parts*b.size).toNat:Int)=b.parts*b.size:=by
 have:=mul_ps hb
 omega
def latS(f:Nat→Int):Nat→List Int
 |0=>[]
 |i+1=>latS f i++if 0<f i then [(i:Int)]else []
theorem lat_len(f:Nat→Int)(n:Nat):(latS f n).length≤n:=by
 induction n with
 |zero=>exact Nat.le_refl _
 |succ n ih=>
  show(latS f n++_).length≤_
  rw[List.length_append]
  split<;>simp<;>omega
theorem dec_beq(a b:Int):(a==b)=decide (a=b):=by
 by_cases h:a=b
 ·rw[decide_eq_true h];simp[h]
 ·rw[decide_eq_false h];simp[h]
theorem spn_eq(a b c d:Int):binV Tryd.prog 125 .eql (valK (wa a b)) (valK (wa c d))=some (.bool (decide (a=c)&&decide (b=d))):=by
 have h:binV Tryd.prog 125 .eql (valK (wa a b)) (valK (wa c d))=opt none (fun x=>some (V.bool x)) (Vam.cond (ieq a c) (Vam.cond (ieq b d) (some true) (some false)) (some false)):=by kernel_rfl
 rw[h,zBI,zBI,dec_beq,dec_beq]
 cases decide (a=c)<;>cases decide (b=d)<;>rfl
theorem arr_eq(f:Nat→Int):binV Tryd.prog 85 .eql (valK (.agg (arrU f))) (valK (.agg [.int .i64 0,.int .i64 0,.int .i64 0,.int .i64 0,.int .i64 0]))=some (.bool (decide (f 0=0)&&(decide (f 1=0)&&(decide (f 2=0)&&(decide (f 3=0)&&decide (f 4=0)))))):=by
 have h:binV Tryd.prog 85 .eql (valK (.agg (arrU f))) (valK (.agg [.int .i64 0,.int .i64 0,.int .i64 0,.int .i64 0,.int .i64 0]))=opt none (fun x=>some (V.bool x)) (Vam.cond (ieq (f 0) 0) (Vam.cond (ieq (f 1) 0) (Vam.cond (ieq (f 2) 0) (Vam.cond (ieq (f 3) 0) (Vam.cond (ieq (f 4) 0) (some true) (some false)) (some false)) (some false)) (some false)) (some false)):=by kernel_rfl
 rw[h]
 simp only[zBI,dec_beq]
 cases decide (f 0=0)<;>cases decide (f 1=0)<;>cases decide (f 2=0)<;>cases decide (f 3=0)<;>cases decide (f 4=0)<;>rfl
def zeroB(f:Nat→Int):Bool:=decide (f 0=0)&&(decide (f 1=0)&&(decide (f 2=0)&&(decide (f 3=0)&&decide (f 4=0))))
def zBb(b:Bk)(L:List Int):Bool:=decide ((L[b.parts.toNat - 1]?).getD 0=b.fin)&&(inS b.tlo b.thi (zAv b L L.length)&&zeroB (aftF b true L (b.parts*b.size).toNat))
theorem ret102(hi:Off is){b:Bk}(hb:BOk b):RetP Tryd.prog is orc 102 [b.u] (wa (b.parts - 1) b.fin):=by
 refine zp body102 pure102 (hi 102 (by decide)) rfl rfl (wS (yM b 4)) (.inl (wO _ _ 6)) ?_
 have:=hb.pa
 refine kQ (zl rfl rfl (zo rfl ze125 ?_))
 refine zA ?_
 refine zJ [(1,U.box 0 0),(2,U.box 1 0)] ([SB.box [.int .i64 (Bk.parts b),.int .i64 (Bk.size b),.lst .ro 1 (zE (Bk.beats b)),.int .i64 (Bk.start b),.int .i64 (Bk.fin b),.int .i64 (Bk.tlo b),.int .i64 (Bk.thi b),.int .i64 (Bk.slo b),.int .i64 (Bk.shi b),.int .i64 (Bk.notice b),.lst .ro 3 (plsU (Bk.players b))],SB.box [.int .i64 0,.int .i64 0]]) (.cons rfl (.cons rfl (.nil rfl))) rfl fun fr=>?_
 refine kQ (zF rfl rfl ya (zF rfl rfl wN (zG rfl rfl rfl sh3 rfl ?_)))
 refine zAQ rfl rfl rfl (by unfold I64;omega) (zF rfl rfl ya (zF rfl rfl zEZ (zG rfl rfl rfl sh3 rfl (zAn rfl ze125 pl125 rfl rfl ?_))))
 refine ze rfl rfl sh125 rfl rfl rfl rfl rfl ?_
 refine zA (zV ?_)
 refine⟨.inr rfl,_,.cons _ _ _ _ (.cellN 2 125 _ _ _ _ rfl rfl sh125 rfl) .nil,?_⟩
 exact .refl _
set_option maxHeartbeats 8000000 in
set_option maxRecDepth 20000 in
theorem ret71(hi:Off is){b:Bk}{L:List Int}(hb:BOk b)(h:POk b L):RetP Tryd.prog is orc 71 [b.u,.lst .ro 1 (zE L)] (.bool (zBb b L)):=by
 refine zp body71 pure71 (hi 71 (by decide)) rfl rfl (yR (yM b 4) (zd 6 .ro (fun h=>by cases h) 1 L)) (.inl (.bool _ _)) ?_
 have hp:=hb.pa
 have hlen:=h.len
 have q95:=ret95 (orc:=orc) hi hb
 have q67:=ret67 (orc:=orc) hi b
 have hps:=toNat_ps hb
 have q55:=ret55 (orc:=orc) hi hb h.rg (by omega)
 have q102:=ret102 (orc:=orc) hi hb
 obtain⟨x,hx,hxr⟩:=at_ok h (q:=b.parts.toNat - 1) (by omega)
 have q101:RetP Tryd.prog is orc 101 [.lst .ro 1 (zE L),.int .i64 (b.parts - 1)] (wa (b.parts - 1) x):=by
  have:=ret101 (orc:=orc) hi hx (by omega)
  rw[show((b.parts.toNat - 1:Nat):Int)=b.parts - 1 by omega]at this;exact this
 have q66:RetP Tryd.prog is orc 66 [truU b 97 96,.lst .ro 1 (zE L),.int .i64 (b.parts*b.size)] (.agg (arrU (aftF b true L (b.parts*b.size).toNat))):=by
  have:=ret66 (orc:=orc) hi hb h true false rfl (m:=(b.parts*b.size).toNat) (by omega)
  rw[hps]at this;exact this
 unfold zBb
 rw[hx]
 show Wp _ _ _ _ _ fun e s=>_∧∃us,_∧UW _ (.u (.bool (decide (x=b.fin)&&_)))
 have eb:=spn_eq (b.parts - 1) x (b.parts - 1) b.fin
 rw[decide_eq_true (rfl:b.parts - 1=b.parts - 1),Bool.true_and]at eb
 have ea:=arr_eq (aftF b true L (b.parts*b.size).toNat)
 change _=some (V.bool (zeroB _))at ea
 have q90:=ret90 (orc:=orc) hi b.tlo b.thi (zAv b L L.length)
 generalize decide (x=b.fin)=z1 at*
 generalize inS b.tlo b.thi (zAv b L L.length)=z2 at*
 generalize zeroB (aftF b true L (b.parts*b.size).toNat)=z3 at*
 cases z1 with
 |false=>
  rw[Bool.false_and]
  refine kQ (zl rfl rfl (zB rfl (zA ?_)))
  refine zJ [(1,.lst .ro 1 (zE L)),(2,U.box 0 0)] ([SB.box [.int .i64 (Bk.parts b),.int .i64 (Bk.size b),.lst .ro 1 (zE (Bk.beats b)),.int .i64 (Bk.start b),.int .i64 (Bk.fin b),.int .i64 (Bk.tlo b),.int .i64 (Bk.thi b),.int .i64 (Bk.slo b),.int .i64 (Bk.shi b),.int .i64 (Bk.notice b),.lst .ro 3 (plsU (Bk.players b))]]) (.cons rfl (.cons rfl (.nil rfl))) rfl fun fr=>?_
  refine k_seq (yO [.plain,.plain,.plain,.read true,.plain,.read false,.read true,.plain,.plain,.plain,.plain,.plain,.read true,.read true,.plain,.read false,.plain,.plain,.plain,.read true,.quiet,.plain,.read true,.plain,.plain,.plain,.plain,.plain,.plain] (by kernel_rfl) (by kernel_rfl) (by kernel_rfl) ?_)
  refine zD (zC rfl (zA rfl)) (zD (zF rfl rfl ya (zA rfl)) ?_)
  refine zD (zF rfl rfl wN (zA rfl)) ?_
  refine zT rfl (zG rfl rfl rfl sh3 rfl (zA rfl)) ?_
  refine zD (zAQ rfl rfl rfl (by unfold I64;omega) (zA rfl)) ?_
  refine zCL rfl (q101) (zEA _ _) (.lrefl _) ?_
  refine zT rfl (zM rfl rfl rfl sh75 rfl (zA rfl)) ?_
  refine zD (zP rfl (q102) (.lrefl _) (zA rfl)) ?_
  refine zD (zGr rfl rfl rfl rfl rfl eb (zA rfl)) ?_
  refine yC [(1,.lst .ro 1 (zE L)),(2,U.box 0 0),(13,.bool false)] [] ([SB.box [.int .i64 (Bk.parts b),.int .i64 (Bk.size b),.lst .ro 1 (zE (Bk.beats b)),.int .i64 (Bk.start b),.int .i64 (Bk.fin b),.int .i64 (Bk.tlo b),.int .i64 (Bk.thi b),.int .i64 (Bk.slo b),.int .i64 (Bk.shi b),.int .i64 (Bk.notice b),.lst .ro 3 (plsU (Bk.players b))]]) (.cons rfl (.cons rfl (.cons rfl (.nil rfl)))) rfl rfl fun fr=>?_
  refine zD (zC rfl (zA rfl)) (d_gS rfl rfl rfl rfl rfl (d_gS rfl rfl rfl rfl rfl (d_gS rfl rfl rfl rfl rfl (d_gS rfl rfl rfl rfl rfl (d_gS rfl rfl rfl rfl rfl (d_gS rfl rfl rfl rfl rfl (d_gS rfl rfl rfl rfl rfl (zD (zL rfl rfl rfl (zA rfl)) ?_))))))))
  refine yC [(1,.lst .ro 1 (zE L)),(2,U.box 0 0),(22,.bool false)] [] ([SB.box [.int .i64 (Bk.parts b),.int .i64 (Bk.size b),.lst .ro 1 (zE (Bk.beats b)),.int .i64 (Bk.start b),.int .i64 (Bk.fin b),.int .i64 (Bk.tlo b),.int .i64 (Bk.thi b),.int .i64 (Bk.slo b),.int .i64 (Bk.shi b),.int .i64 (Bk.notice b),.lst .ro 3 (plsU (Bk.players b))]]) (.cons rfl (.cons rfl (.cons rfl (.nil rfl)))) rfl rfl fun fr=>?_
  refine zD (zC rfl (zA rfl)) (d_gS rfl rfl rfl rfl rfl (d_gS rfl rfl rfl rfl rfl (d_gS rfl rfl rfl rfl rfl (d_gS rfl rfl rfl rfl rfl (d_gS rfl rfl rfl rfl rfl (d_gS rfl rfl rfl rfl rfl (d_gS rfl rfl rfl rfl rfl (d_gS rfl rfl rfl rfl rfl ?_))))))))
  refine yC [(23,.bool false),(31,U.tup [])] [] ([SB.box [.int .i64 (Bk.parts b),.int .i64 (Bk.size b),.lst .ro 1 (zE (Bk.beats b)),.int .i64 (Bk.start b),.int .i64 (Bk.fin b),.int .i64 (Bk.tlo b),.int .i64 (Bk.thi b),.int .i64 (Bk.slo b),.int .i64 (Bk.shi b),.int .i64 (Bk.notice b),.lst .ro 3 (plsU (Bk.players b))]]) (.cons rfl (.cons rfl (.nil rfl))) rfl rfl fun fr=>?_
  refine zD (zL rfl rfl rfl (zA rfl)) ?_
  refine zD (zB rfl (zA rfl)) ?_
  refine wH ?_
  refine zV ?_
  refine⟨.inr rfl,_,.cons _ _ _ _ (.tmp 4) .nil,?_⟩
  exact .refl _
 |true=>
  rw[Bool.true_and]
  refine kQ (zl rfl rfl (zB rfl (zA ?_)))
  refine zJ [(1,.lst .ro 1 (zE L)),(2,U.box 0 0)] ([SB.box [.int .i64 (Bk.parts b),.int .i64 (Bk.size b),.lst .ro 1 (zE (Bk.beats b)),.int .i64 (Bk.start b),.int .i64 (Bk.fin b),.int .i64 (Bk.tlo b),.int .i64 (Bk.thi b),.int .i64 (Bk.slo b),.int .i64 (Bk.shi b),.int .i64 (Bk.notice b),.lst .ro 3 (plsU (Bk.players b))]]) (.cons rfl (.cons rfl (.nil rfl))) rfl fun fr=>?_
  refine k_seq (yO [.plain,.plain,.plain,.read true,.plain,.read false,.read true,.plain,.plain,.plain,.plain,.plain,.read true,.read true,.plain,.read false,.plain,.plain,.plain,.read true,.quiet,.plain,.read true,.plain,.plain,.plain,.plain,.plain,.plain] (by kernel_rfl) (by kernel_rfl) (by kernel_rfl) ?_)
  refine zD (zC rfl (zA rfl)) (zD (zF rfl rfl ya (zA rfl)) ?_)
  refine zD (zF rfl rfl wN (zA rfl)) ?_
  refine zT rfl (zG rfl rfl rfl sh3 rfl (zA rfl)) ?_
  refine zD (zAQ rfl rfl rfl (by unfold I64;omega) (zA rfl)) ?_
  refine zCL rfl (q101) (zEA _ _) (.lrefl _) ?_
  refine zT rfl (zM rfl rfl rfl sh75 rfl (zA rfl)) ?_
  refine zD (zP rfl (q102) (.lrefl _) (zA rfl)) ?_
  refine zD (zGr rfl rfl rfl rfl rfl eb (zA rfl)) ?_
  refine yC [(1,.lst .ro 1 (zE L)),(2,U.box 0 0),(13,.bool true)] [] ([SB.box [.int .i64 (Bk.parts b),.int .i64 (Bk.size b),.lst .ro 1 (zE (Bk.beats b)),.int .i64 (Bk.start b),.int .i64 (Bk.fin b),.int .i64 (Bk.tlo b),.int .i64 (Bk.thi b),.int .i64 (Bk.slo b),.int .i64 (Bk.shi b),.int .i64 (Bk.notice b),.lst .ro 3 (plsU (Bk.players b))]]) (.cons rfl (.cons rfl (.cons rfl (.nil rfl)))) rfl rfl fun fr=>?_
  refine zD (zC rfl (zA rfl)) (d_gD rfl rfl rfl rfl rfl (zD (zF rfl rfl ya (zA rfl)) ?_))
  refine d_gD rfl rfl rfl rfl rfl (zD (zF rfl rfl zGN (zA rfl)) ?_)
  refine d_gD rfl rfl rfl rfl rfl (zT rfl (zM rfl rfl rfl sh24 rfl (zA rfl)) ?_)
  refine d_gD rfl rfl rfl rfl rfl (zT rfl (zM rfl rfl rfl sh75 rfl (zA rfl)) ?_)
  refine d_gD rfl rfl rfl rfl rfl (zD (zC rfl (zA rfl)) (d_gD rfl rfl rfl rfl rfl (zCL rfl (q55) (.int _ _) (.lrefl _) ?_)))
  refine d_gD rfl rfl rfl rfl rfl (zD (zP rfl (q90) (.lrefl _) (zA rfl)) ?_)
  refine zD (zX rfl rfl rfl (zA rfl)) ?_
  refine yC [(1,.lst .ro 1 (zE L)),(2,U.box 0 0),(22,U.bool z2)] [] ([SB.box [.int .i64 (Bk.parts b),.int .i64 (Bk.size b),.lst .ro 1 (zE (Bk.beats b)),.int .i64 (Bk.start b),.int .i64 (Bk.fin b),.int .i64 (Bk.tlo b),.int .i64 (Bk.thi b),.int .i64 (Bk.slo b),.int .i64 (Bk.shi b),.int .i64 (Bk.notice b),.lst .ro 3 (plsU (Bk.players b))]]) (.cons rfl (.cons rfl (.cons rfl (.nil rfl)))) rfl rfl fun fr=>?_
  refine zD (zC rfl (zA rfl)) ?_
  refine d_guardX rfl rfl rfl rfl (fun h23=>?_) (fun h23=>?_)
  ·refine zT rfl (zM rfl rfl rfl sh75 rfl (zA rfl)) ?_
   refine d_gD rfl rfl rfl rfl (by assumption) ?_
   refine d_callQ rfl (q67) (.lrefl _) ?_
   refine d_gD rfl rfl rfl rfl (by assumption) ?_
   refine zD (zC rfl (zA rfl)) (d_gD rfl rfl rfl rfl (by assumption) ?_)
   refine zT rfl (zM rfl rfl rfl sh75 rfl (zA rfl)) ?_
   refine d_gD rfl rfl rfl rfl (by assumption) ?_
   refine zD (zP rfl (q95) (.lrefl _) (zA rfl)) ?_
   refine d_gD rfl rfl rfl rfl (by assumption) ?_
   refine zD (zP rfl (q66) (.lrefl _) (zA rfl)) ?_
   refine d_gD rfl rfl rfl rfl (by assumption) ?_
   refine zD (zAn rfl ze85 pl85 rfl rfl (zA rfl)) ?_
   refine d_gD rfl rfl rfl rfl (by assumption) ?_
   refine zD (zGr rfl rfl rfl rfl rfl ea (zA rfl)) ?_
   refine yC [(23,U.bool z2),(31,U.bool z3)] [] ([SB.box [.int .i64 (Bk.parts b),.int .i64 (Bk.size b),.lst .ro 1 (zE (Bk.beats b)),.int .i64 (Bk.start b),.int .i64 (Bk.fin b),.int .i64 (Bk.tlo b),.int .i64 (Bk.thi b),.int .i64 (Bk.slo b),.int .i64 (Bk.shi b),.int .i64 (Bk.notice b),.lst .ro 3 (plsU (Bk.players b))]]) (.cons rfl (.cons rfl (.nil rfl))) rfl rfl fun fr=>?_
   refine zD (zX rfl rfl (by assumption) (zA rfl)) ?_
   refine zD (zB rfl (zA rfl)) ?_
   refine wH ?_
   refine zV ?_
   refine⟨.inr rfl,_,.cons _ _ _ _ (.tmp 4) .nil,?_⟩
   subst_vars;exact .refl _
  ·refine d_gS rfl rfl rfl rfl (by assumption) ?_
   refine d_gS rfl rfl rfl rfl (by assumption) ?_
   refine d_gS rfl rfl rfl rfl (by assumption) ?_
   refine d_gS rfl rfl rfl rfl (by assumption) ?_
   refine d_gS rfl rfl rfl rfl (by assumption) ?_
   refine d_gS rfl rfl rfl rfl (by assumption) ?_
   refine d_gS rfl rfl rfl rfl (by assumption) ?_
   refine yC [(23,U.bool z2),(31,U.tup [])] [] ([SB.box [.int .i64 (Bk.parts b),.int .i64 (Bk.size b),.lst .ro 1 (zE (Bk.beats b)),.int .i64 (Bk.start b),.int .i64 (Bk.fin b),.int .i64 (Bk.tlo b),.int .i64 (Bk.thi b),.int .i64 (Bk.slo b),.int .i64 (Bk.shi b),.int .i64 (Bk.notice b),.lst .ro 3 (plsU (Bk.players b))]]) (.cons rfl (.cons rfl (.nil rfl))) rfl rfl fun fr=>?_
   refine zD (zL rfl rfl (by assumption) (zA rfl)) ?_
   refine zD (zB rfl (zA rfl)) ?_
   refine wH ?_
   refine zV ?_
   refine⟨.inr rfl,_,.cons _ _ _ _ (.tmp 4) .nil,?_⟩
   subst_vars;exact .refl _
theorem ret25(hi:Off is){b:Bk}{L:List Int}(h:BOk b)(hp:POk b L):RetP Tryd.prog is orc 25 [b.u,.lst .ro 1 (zE L)] (.tup [.bool (zBb b L),.int .i64 0]):=by
 refine zp body25 pure25 (hi 25 (by decide)) rfl rfl (yR (yM b 4) (zd 6 .ro (fun h=>by cases h) 1 L)) (.inr ⟨_,rfl,yR (k:=7) (.bool _ _) (.int _ _ _)⟩) ?_
 have q62:=ret62 (orc:=orc) hi h hp
 have q71:=ret71 (orc:=orc) hi h hp
 refine kQ (zl rfl rfl (zB rfl (zB rfl (zA ?_))))
 refine zJ [(1,.lst .ro 1 (zE L)),(2,U.box 0 0)] ([SB.box [.int .i64 (Bk.parts b),.int .i64 (Bk.size b),.lst .ro 1 (zE (Bk.beats b)),.int .i64 (Bk.start b),.int .i64 (Bk.fin b),.int .i64 (Bk.tlo b),.int .i64 (Bk.thi b),.int .i64 (Bk.slo b),.int .i64 (Bk.shi b),.int .i64 (Bk.notice b),.lst .ro 3 (plsU (Bk.players b))]]) (.cons rfl (.cons rfl (.nil rfl))) rfl fun fr=>?_
 refine kQ (zM rfl rfl rfl sh27 rfl ?_)
 refine zBG rfl (wpc60z hi h) (.lrefl _) (fun u st1 hM=>?_)
 obtain⟨rfl,e,hY⟩:=hM
 refine zC rfl (zb rfl rfl rfl (zb rfl rfl rfl (zo rfl ze75 ?_)))
 refine ze rfl (zu _ _) sh75 rfl rfl rfl rfl rfl ?_
 refine zB rfl (zA ?_)
 refine zJ [(1,.lst .ro 1 (zE L)),(6,U.box (List.length st1) 0),(7,.int .i64 0)] (st1++[SB.box [.int .i64 (Bk.parts b),.int .i64 (Bk.size b),.lst .ro 1 (zE (Bk.beats b)),.int .i64 (Bk.start b),.int .i64 (Bk.fin b),.int .i64 (Bk.tlo b),.int .i64 (Bk.thi b),.int .i64 (Bk.slo b),.int .i64 (Bk.shi b),.int .i64 (Bk.notice b),.lst .ro 3 (plsU (Bk.players b))]]) (.cons rfl (.cons rfl (.cons rfl (.nil rfl)))) (yr _ _ _) fun fr=>?_
 refine k_seq (kQ (zC rfl (wB rfl rfl rfl (zA (k_cF rfl rfl ?_)))))
 refine zR (kQ (zM rfl rfl (zu _ _) sh75 rfl ?_))
 refine zC rfl (zP rfl (q62) (.lrefl _) (zC rfl (o_gD rfl rfl rfl rfl rfl (zM rfl rfl (zu _ _) sh75 rfl ?_))))
 refine o_gD rfl rfl rfl rfl rfl (zC rfl (o_gD rfl rfl rfl rfl rfl (zP rfl (q71) (.lrefl _) (zX rfl rfl rfl ?_))))
 refine zB rfl (zB rfl (zA (zV ?_)))
 refine⟨.inr rfl,_,.cons _ _ _ _ (.tmp 4) (.cons _ _ _ _ (.tmp 5) .nil),?_⟩
 exact .refl _
end
end Go.Proofs.YtfbmlibilcjlgaaDoor.drumPlans
