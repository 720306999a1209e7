import Derived.Test.YtfbmlibilcjlgaaDoorVamT6
set_option linter.unusedVariables false
set_option linter.unusedSimpArgs false
set_option linter.constructorNameAsVariable false
namespace Go.Proofs.YtfbmlibilcjlgaaDoor.drumBounds
open Vam
section
variable {is:FuncId→Bool}{orc:Known}
noncomputable def b63:Code:=(Tryd.f63.body).getD .skip
theorem body63:bodyOf Tryd.prog 63=some (15,b63,[.tmp 4]):=by kernel_rfl
theorem pure63:pureFn Tryd.prog 63=true:=by kernel_rfl
noncomputable def b95:Code:=(Tryd.f95.body).getD .skip
theorem body95:bodyOf Tryd.prog 95=some (10,b95,[.tmp 2]):=by kernel_rfl
theorem pure95:pureFn Tryd.prog 95=true:=by kernel_rfl
theorem ret63(hi:Off is)(b:Bk)(n:Int):RetP Tryd.prog is orc 63 [b.u,.int .i64 n] (.bool (decide (0≤n)&&decide (n<b.players.length))):=by
 refine zk body63 pure63 (hi 63 (by decide)) rfl rfl (yM (yK b 4) (.int _ _ _)) (.inl (.bool _ _)) ?_
 by_cases h:0≤n
 ·rw[decide_eq_true h,Bool.true_and]
  refine kQ (zc rfl rfl (zB rfl (zA ?_)))
  refine zH [(1,.int .i64 n),(2,U.box 0 0)] ([SB.box (Bk.cs b)]) (.cons rfl (.cons rfl (.nil rfl))) rfl fun fr=>?_
  refine kQ (zC rfl (zCh rfl rfl rfl (zC rfl (o_gD rfl rfl rfl rfl (decide_eq_true (by omega)) ?_))))
  refine zC rfl (o_gD rfl rfl rfl rfl (decide_eq_true (by omega)) ?_)
  refine zE rfl rfl yB (o_gD rfl rfl rfl rfl (decide_eq_true (by omega)) ?_)
  refine zE rfl rfl yd (o_gD rfl rfl rfl rfl (decide_eq_true (by omega)) ?_)
  refine zF rfl rfl rfl sh25 rfl (o_gD rfl rfl rfl rfl (decide_eq_true (by omega)) ?_)
  refine yF rfl ty25 rfl (List.length_map _) ?_
  refine o_gD rfl rfl rfl rfl (decide_eq_true (by omega)) ?_
  refine zf rfl rfl rfl (za rfl rfl (decide_eq_true (by omega)) ?_)
  refine zB rfl (zA (zU ?_))
  refine⟨.inr rfl,_,.cons _ _ _ _ (.tmp 4) .nil,?_⟩
  exact .refl _
 ·rw[decide_eq_false h,Bool.false_and]
  refine kQ (zc rfl rfl (zB rfl (zA ?_)))
  refine zH [(1,.int .i64 n),(2,U.box 0 0)] ([SB.box (Bk.cs b)]) (.cons rfl (.cons rfl (.nil rfl))) rfl fun fr=>?_
  refine kQ (zC rfl (zCh rfl rfl rfl (zC rfl (o_gS rfl rfl rfl rfl (decide_eq_false (by omega)) ?_))))
  refine o_gS rfl rfl rfl rfl (decide_eq_false (by omega)) ?_
  refine o_gS rfl rfl rfl rfl (decide_eq_false (by omega)) ?_
  refine o_gS rfl rfl rfl rfl (decide_eq_false (by omega)) ?_
  refine o_gS rfl rfl rfl rfl (decide_eq_false (by omega)) ?_
  refine o_gS rfl rfl rfl rfl (decide_eq_false (by omega)) ?_
  refine zN rfl rfl (decide_eq_false (by omega)) ?_
  refine zB rfl (zA (zU ?_))
  refine⟨.inr rfl,_,.cons _ _ _ _ (.tmp 4) .nil,?_⟩
  exact .refl _
theorem mul_ps{b:Bk}(hb:BOk b):1≤b.parts*b.size∧b.parts*b.size≤128:=by
 have hp:=hb.pa
 have hs:=hb.sz
 constructor
 ·have:=Int.mul_le_mul hp.1 hs.1 (by omega) (by omega)
  omega
 ·have:=Int.mul_le_mul hp.2 hs.2 (by omega) (by omega)
  omega
theorem ret95(hi:Off is){b:Bk}(hb:BOk b):RetP Tryd.prog is orc 95 [b.u] (.int .i64 (b.parts*b.size)):=by
 refine zk body95 pure95 (hi 95 (by decide)) rfl rfl (zAH (yK b 4)) (.inl (.int _ _ _)) ?_
 have:=mul_ps hb
 refine kQ (zc rfl rfl (zB rfl (zA ?_)))
 refine zH [(1,U.box 0 0)] ([SB.box (Bk.cs b)]) (.cons rfl (.nil rfl)) rfl fun fr=>?_
 refine kQ (zE rfl rfl yB (zE rfl rfl wU (zF rfl rfl rfl sh3 rfl (zE rfl rfl yB (zE rfl rfl yZ (zF rfl rfl rfl sh3 rfl ?_))))))
 refine zFR rfl rfl rfl (by unfold I64;omega) ?_
 refine zB rfl (zA (zU ?_))
 refine⟨.inr rfl,_,.cons _ _ _ _ (.tmp 2) .nil,?_⟩
 exact .refl _
set_option maxHeartbeats 8000000 in
theorem wpc60v(hi:Off is){b:Bk}(hb:BOk b){st:List SB}{g:Nat}{B:List U}(hg:∀X,WpC Tryd.prog is orc g ([b.u]++B) (st++X) fun u st'=>u=.bool true∧∃e,st'=(st++X)++e):WpC Tryd.prog is orc 60 [b.u,.lst .ro 1 [.fn g [] B]] st fun u st'=>u=.tup [b.u,.int .i64 0]∧∃e,st'=st++e:=by
 refine zAW body60 pure60 rfl rfl ?_
 have q17:=ret17 (orc:=orc) hi b
 rw[if_pos ((wZ b).2 hb)]at q17
 refine kQ (zc rfl rfl (zi rfl ze75 ?_))
 refine zB rfl (zA ?_)
 refine zH [(1,.lst .ro 1 [U.fn g [] B]),(2,U.box (List.length st) 0),(4,U.box (List.length (st++[SB.box (Bk.cs b)])) 0)] (st++[SB.box (Bk.cs b)]++[SB.box [.int .i64 0,.int .i64 0,.lst .full 0 [],.int .i64 0,.int .i64 0,.int .i64 0,.int .i64 0,.int .i64 0,.int .i64 0,.int .i64 0,.lst .full 0 []]]) (.cons rfl (.cons rfl (.cons rfl (.nil rfl)))) rfl fun fr=>?_
 refine k_seq (kQ (zJ rfl rfl (zo (zp _ _)) sh27 rfl ?_))
 refine zP rfl (q17) (.lrefl _) (zB rfl (zA (kQ (zC rfl (wC rfl rfl rfl (zA (k_cF rfl rfl ?_)))))))
 refine zQ (kQ (zJ rfl rfl (zo (zp _ _)) sh27 rfl ?_))
 refine yp rfl ze75 pl75 rfl rfl ?_
 refine zi rfl ze75 ?_
 refine zZ rfl (zp _ _) sh75 rfl rfl rfl rfl rfl ?_
 refine zA ?_
 refine zH [(1,.lst .ro 1 [U.fn g [] B]),(4,U.box (List.length (st++[SB.box (Bk.cs b)])) 0),(7,U.box (List.length (st++[SB.box (Bk.cs b)]++[SB.box [.int .i64 0,.int .i64 0,.lst .full 0 [],.int .i64 0,.int .i64 0,.int .i64 0,.int .i64 0,.int .i64 0,.int .i64 0,.int .i64 0,.lst .full 0 []]])) 0)] (st++[SB.box (Bk.cs b)]++[SB.box [.int .i64 0,.int .i64 0,.lst .full 0 [],.int .i64 0,.int .i64 0,.int .i64 0,.int .i64 0,.int .i64 0,.int .i64 0,.int .i64 0,.lst .full 0 []]]++[SB.box (Bk.cs b)]) (.cons rfl (.cons rfl (.cons rfl (.nil rfl)))) (yx _ _ _) fun fr=>?_
 refine k_seq (kQ (zC rfl (yF rfl zFM rfl rfl ?_)))
 refine zC rfl (zA (zL ?_))
 refine yh (fun kk s2=>∃X:List SB,s2.st=st++X∧X[1]? =some (.box [.int .i64 0,.int .i64 0,.lst .full 0 [],.int .i64 0,.int .i64 0,.int .i64 0,.int .i64 0,.int .i64 0,.int .i64 0,.int .i64 0,.lst .full 0 []])∧X[2]? =some (.box (Bk.cs b))∧((kk=1∧Holds s2 [(4,.box (st.length+1) 0),(7,.box (st.length+2) 0),(18,.lst .ro 1 [.fn g [] B]),(19,.int .i64 1),(20,.int .i64 0)])∨(kk=0∧Holds s2 [(4,.box (st.length+1) 0),(7,.box (st.length+2) 0),(18,.lst .ro 1 [.fn g [] B]),(19,.int .i64 1),(20,.int .i64 1)]))) (fun kk s2 hI=>?_) 1 _ ⟨[.box (Bk.cs b),.box [.int .i64 0,.int .i64 0,.lst .full 0 [],.int .i64 0,.int .i64 0,.int .i64 0,.int .i64 0,.int .i64 0,.int .i64 0,.int .i64 0,.lst .full 0 []],.box (Bk.cs b)],(by show((st++[SB.box _])++[SB.box _])++[SB.box _]=_;rw[List.append_assoc,List.append_assoc];rfl),rfl,rfl,.inl ⟨rfl,.cons (by show U.box (st++[SB.box _]).length 0=_;simp) (.cons (by show U.box ((st++[SB.box _])++[SB.box _]).length 0=_;simp) (.cons rfl (.cons rfl (.cons rfl (.nil rfl)))))⟩⟩
 obtain⟨X,hst2,x1,x2,⟨hk,hs2⟩|⟨hk,hs2⟩⟩:=hI
 ·have y1:=zDa (st:=st) x1
  have y2:=zDa (st:=st) x2
  refine zH _ _ hs2 hst2 fun fr2=>?_
  refine kQ (zf rfl rfl rfl (zA (k_seq (k_cT rfl rfl ?_))))
  refine zQ (k_seq (zL (kQ (yD rfl zFM rfl rfl (by decide) rfl cl83 ?_))))
  refine zT rfl rfl sh83 rfl ?_
  refine zB rfl (zA (kQ (zC rfl (zJ rfl rfl y2 sh75 rfl ?_))))
  refine zEf rfl rfl (hg X) (.lrefl _) (fun u st1 hM=>?_)
  obtain⟨rfl,e,rfl⟩:=hM
  refine yu rfl rfl (zA (k_cF rfl rfl ?_))
  refine zQ (k_region ?_)
  refine yO rfl rfl rfl (by unfold I64;omega) (zC rfl (zA ?_))
  exact⟨0,by omega,X++e,(by show(st++X)++e=_;rw[List.append_assoc]),zo x1,zo x2,.inr ⟨rfl,.c4 rfl rfl rfl rfl (.cons rfl (.nil rfl))⟩⟩
 ·have y1:=zDa (st:=st) x1
  have y2:=zDa (st:=st) x2
  refine zH _ _ hs2 hst2 fun fr2=>?_
  have hl:st.length+1<(st++X).length:=(List.getElem?_eq_some_iff.1 y1).1
  refine kQ (zf rfl rfl rfl (zA (k_seq (k_cF rfl rfl ?_))))
  refine yP (kQ (zJ rfl rfl y2 sh75 rfl ?_))
  refine zZ rfl y1 sh75 rfl rfl rfl rfl rfl ?_
  refine zB rfl (zA (zU ?_))
  refine⟨.inr rfl,_,.cons _ _ _ _ (.cellN 4 75 (st.length+1) 0 11 (Bk.cs b) rfl (List.getElem?_set_self hl) sh75 rfl) (.cons _ _ _ _ (.tmp 5) .nil),_,.refl _,rfl,_,set_off⟩
end
section
variable {is:FuncId→Bool}{orc:Known}
noncomputable def b102:Code:=(Tryd.f102.body).getD .skip
theorem body102:bodyOf Tryd.prog 102=some (11,b102,[.cell 2 125]):=by kernel_rfl
theorem pure102:pureFn Tryd.prog 102=true:=by kernel_rfl
theorem pl85:zDx Tryd.prog 85=some [(0,1),(1,1),(2,1),(3,1),(4,1)]:=by kernel_rfl
noncomputable def b71:Code:=(Tryd.f71.body).getD .skip
theorem body71:bodyOf Tryd.prog 71=some (33,b71,[.tmp 4]):=by kernel_rfl
theorem pure71:pureFn Tryd.prog 71=true:=by kernel_rfl
theorem toNat_ps{b:Bk}(hb:BOk b):((b.parts*b.size).toNat:Int)=b.parts*b.size:=by
 have:=mul_ps hb
 omega
def latS(f:Nat→Int):Nat→List Int
 |0=>[]
 |i+1=>latS f i++if 0<f i then [(i:Int)]else []
theorem lat_len(f:Nat→Int)(n:Nat):(latS f n).length≤n:=by
 induction n with
 |zero=>exact Nat.le_refl _
 |succ n ih=>
  show(latS f n++_).length≤_
  rw[List.length_append]
  split<;>simp<;>omega
theorem dec_beq(a b:Int):(a==b)=decide (a=b):=by
 by_cases h:a=b
 ·rw[decide_eq_true h];simp[h]
 ·rw[decide_eq_false h];simp[h]
theorem spn_eq(a b c d:Int):binV Tryd.prog 125 .eql (valK (wB a b)) (valK (wB c d))=some (.bool (decide (a=c)&&decide (b=d))):=by
 have h:binV Tryd.prog 125 .eql (valK (wB a b)) (valK (wB c d))=opt none (fun x=>some (V.bool x)) (Vam.cond (ieq a c) (Vam.cond (ieq b d) (some true) (some false)) (some false)):=by kernel_rfl
 rw[h,zAo,zAo,dec_beq,dec_beq]
 cases decide (a=c)<;>cases decide (b=d)<;>rfl
theorem arr_eq(f:Nat→Int):binV Tryd.prog 85 .eql (valK (.agg (arrU f))) (valK (.agg [.int .i64 0,.int .i64 0,.int .i64 0,.int .i64 0,.int .i64 0]))=some (.bool (decide (f 0=0)&&(decide (f 1=0)&&(decide (f 2=0)&&(decide (f 3=0)&&decide (f 4=0)))))):=by
 have h:binV Tryd.prog 85 .eql (valK (.agg (arrU f))) (valK (.agg [.int .i64 0,.int .i64 0,.int .i64 0,.int .i64 0,.int .i64 0]))=opt none (fun x=>some (V.bool x)) (Vam.cond (ieq (f 0) 0) (Vam.cond (ieq (f 1) 0) (Vam.cond (ieq (f 2) 0) (Vam.cond (ieq (f 3) 0) (Vam.cond (ieq (f 4) 0) (some true) (some false)) (some false)) (some false)) (some false)) (some false)):=by kernel_rfl
 rw[h]
 simp only[zAo,dec_beq]
 cases decide (f 0=0)<;>cases decide (f 1=0)<;>cases decide (f 2=0)<;>cases decide (f 3=0)<;>cases decide (f 4=0)<;>rfl
def zeroB(f:Nat→Int):Bool:=decide (f 0=0)&&(decide (f 1=0)&&(decide (f 2=0)&&(decide (f 3=0)&&decide (f 4=0))))
def zBh(b:Bk)(L:List Int):Bool:=decide ((L[b.parts.toNat - 1]?).getD 0=b.fin)&&(inS b.tlo b.thi (zAL b L L.length)&&zeroB (aftF b true L (b.parts*b.size).toNat))
theorem ret102(hi:Off is){b:Bk}(hb:BOk b):RetP Tryd.prog is orc 102 [b.u] (wB (b.parts - 1) b.fin):=by
 refine zk body102 pure102 (hi 102 (by decide)) rfl rfl (zAH (yK b 4)) (.inl (yq _ _ 6)) ?_
 have:=hb.pa
 refine kQ (zc rfl rfl (zi rfl ze125 ?_))
 refine zA ?_
 refine zH [(1,U.box 0 0),(2,U.box 1 0)] ([SB.box (Bk.cs b),SB.box [.int .i64 0,.int .i64 0]]) (.cons rfl (.cons rfl (.nil rfl))) rfl fun fr=>?_
 refine kQ (zE rfl rfl yB (zE rfl rfl wU (zF rfl rfl rfl sh3 rfl ?_)))
 refine yn rfl rfl rfl (by unfold I64;omega) (zE rfl rfl yB (zE rfl rfl zEo (zF rfl rfl rfl sh3 rfl (yp rfl ze125 pl125 rfl rfl ?_))))
 refine zZ rfl rfl sh125 rfl rfl rfl rfl rfl ?_
 refine zA (zU ?_)
 refine⟨.inr rfl,_,.cons _ _ _ _ (.cellN 2 125 _ _ _ _ rfl rfl sh125 rfl) .nil,?_⟩
 exact .refl _
set_option maxHeartbeats 8000000 in
set_option maxRecDepth 20000 in
theorem ret71(hi:Off is){b:Bk}{L:List Int}(hb:BOk b)(h:POk b L):RetP Tryd.prog is orc 71 [b.u,.lst .ro 1 (zG L)] (.bool (zBh b L)):=by
 refine zk body71 pure71 (hi 71 (by decide)) rfl rfl (yM (yK b 4) (zr 6 .ro (fun h=>by cases h) 1 L)) (.inl (.bool _ _)) ?_
 have hp:=hb.pa
 have hlen:=h.len
 have q95:=ret95 (orc:=orc) hi hb
 have q67:=ret67 (orc:=orc) hi b
 have hps:=toNat_ps hb
 have q55:=ret55 (orc:=orc) hi hb h.rg (by omega)
 have q102:=ret102 (orc:=orc) hi hb
 obtain⟨x,hx,hxr⟩:=at_ok h (q:=b.parts.toNat - 1) (by omega)
 have q101:RetP Tryd.prog is orc 101 [.lst .ro 1 (zG L),.int .i64 (b.parts - 1)] (wB (b.parts - 1) x):=by
  have:=ret101 (orc:=orc) hi hx (by omega)
  rw[show((b.parts.toNat - 1:Nat):Int)=b.parts - 1 by omega]at this;exact this
 have q66:RetP Tryd.prog is orc 66 [truU b 97 96,.lst .ro 1 (zG L),.int .i64 (b.parts*b.size)] (.agg (arrU (aftF b true L (b.parts*b.size).toNat))):=by
  have:=ret66 (orc:=orc) hi hb h true false rfl (m:=(b.parts*b.size).toNat) (by omega)
  rw[hps]at this;exact this
 unfold zBh
 rw[hx]
 show Wp _ _ _ _ _ fun e s=>_∧∃us,_∧UW _ (.u (.bool (decide (x=b.fin)&&_)))
 have eb:=spn_eq (b.parts - 1) x (b.parts - 1) b.fin
 rw[decide_eq_true (rfl:b.parts - 1=b.parts - 1),Bool.true_and]at eb
 have ea:=arr_eq (aftF b true L (b.parts*b.size).toNat)
 change _=some (V.bool (zeroB _))at ea
 have q90:=ret90 (orc:=orc) hi b.tlo b.thi (zAL b L L.length)
 generalize decide (x=b.fin)=z1 at*
 generalize inS b.tlo b.thi (zAL b L L.length)=z2 at*
 generalize zeroB (aftF b true L (b.parts*b.size).toNat)=z3 at*
 cases z1 with
 |false=>
  rw[Bool.false_and]
  refine kQ (zc rfl rfl (zB rfl (zA ?_)))
  refine zH [(1,.lst .ro 1 (zG L)),(2,U.box 0 0)] ([SB.box (Bk.cs b)]) (.cons rfl (.cons rfl (.nil rfl))) rfl fun fr=>?_
  refine k_seq (yL [.plain,.plain,.plain,.read true,.plain,.read false,.read true,.plain,.plain,.plain,.plain,.plain,.read true,.read true,.plain,.read false,.plain,.plain,.plain,.read true,.quiet,.plain,.read true,.plain,.plain,.plain,.plain,.plain,.plain] (by kernel_rfl) (by kernel_rfl) (by kernel_rfl) ?_)
  refine zD (zC rfl (zA rfl)) (zD (zE rfl rfl yB (zA rfl)) ?_)
  refine zD (zE rfl rfl wU (zA rfl)) ?_
  refine zR rfl (zF rfl rfl rfl sh3 rfl (zA rfl)) ?_
  refine zD (yn rfl rfl rfl (by unfold I64;omega) (zA rfl)) ?_
  refine zBQ rfl (q101) (zCz _ _) (.lrefl _) ?_
  refine zR rfl (zJ rfl rfl rfl sh75 rfl (zA rfl)) ?_
  refine zD (zP rfl (q102) (.lrefl _) (zA rfl)) ?_
  refine zD (zHD rfl rfl rfl rfl rfl eb (zA rfl)) ?_
  refine yI [(1,.lst .ro 1 (zG L)),(2,U.box 0 0),(13,.bool false)] [] ([SB.box (Bk.cs b)]) (.cons rfl (.cons rfl (.cons rfl (.nil rfl)))) rfl rfl fun fr=>?_
  refine zD (zC rfl (zA rfl)) (d_gS rfl rfl rfl rfl rfl (d_gS rfl rfl rfl rfl rfl (d_gS rfl rfl rfl rfl rfl (d_gS rfl rfl rfl rfl rfl (d_gS rfl rfl rfl rfl rfl (d_gS rfl rfl rfl rfl rfl (d_gS rfl rfl rfl rfl rfl (zD (zN rfl rfl rfl (zA rfl)) ?_))))))))
  refine yI [(1,.lst .ro 1 (zG L)),(2,U.box 0 0),(22,.bool false)] [] ([SB.box (Bk.cs b)]) (.cons rfl (.cons rfl (.cons rfl (.nil rfl)))) rfl rfl fun fr=>?_
  refine zD (zC rfl (zA rfl)) (d_gS rfl rfl rfl rfl rfl (d_gS rfl rfl rfl rfl rfl (d_gS rfl rfl rfl rfl rfl (d_gS rfl rfl rfl rfl rfl (d_gS rfl rfl rfl rfl rfl (d_gS rfl rfl rfl rfl rfl (d_gS rfl rfl rfl rfl rfl (d_gS rfl rfl rfl rfl rfl ?_))))))))
  refine yI [(23,.bool false),(31,U.tup [])] [] ([SB.box (Bk.cs b)]) (.cons rfl (.cons rfl (.nil rfl))) rfl rfl fun fr=>?_
  refine zD (zN rfl rfl rfl (zA rfl)) ?_
  refine zD (zB rfl (zA rfl)) ?_
  refine yw ?_
  refine zU ?_
  refine⟨.inr rfl,_,.cons _ _ _ _ (.tmp 4) .nil,?_⟩
  exact .refl _
 |true=>
  rw[Bool.true_and]
  refine kQ (zc rfl rfl (zB rfl (zA ?_)))
  refine zH [(1,.lst .ro 1 (zG L)),(2,U.box 0 0)] ([SB.box (Bk.cs b)]) (.cons rfl (.cons rfl (.nil rfl))) rfl fun fr=>?_
  refine k_seq (yL [.plain,.plain,.plain,.read true,.plain,.read false,.read true,.plain,.plain,.plain,.plain,.plain,.read true,.read true,.plain,.read false,.plain,.plain,.plain,.read true,.quiet,.plain,.read true,.plain,.plain,.plain,.plain,.plain,.plain] (by kernel_rfl) (by kernel_rfl) (by kernel_rfl) ?_)
  refine zD (zC rfl (zA rfl)) (zD (zE rfl rfl yB (zA rfl)) ?_)
  refine zD (zE rfl rfl wU (zA rfl)) ?_
  refine zR rfl (zF rfl rfl rfl sh3 rfl (zA rfl)) ?_
  refine zD (yn rfl rfl rfl (by unfold I64;omega) (zA rfl)) ?_
  refine zBQ rfl (q101) (zCz _ _) (.lrefl _) ?_
  refine zR rfl (zJ rfl rfl rfl sh75 rfl (zA rfl)) ?_
  refine zD (zP rfl (q102) (.lrefl _) (zA rfl)) ?_
  refine zD (zHD rfl rfl rfl rfl rfl eb (zA rfl)) ?_
  refine yI [(1,.lst .ro 1 (zG L)),(2,U.box 0 0),(13,.bool true)] [] ([SB.box (Bk.cs b)]) (.cons rfl (.cons rfl (.cons rfl (.nil rfl)))) rfl rfl fun fr=>?_
  refine zD (zC rfl (zA rfl)) (d_gD rfl rfl rfl rfl rfl (zD (zE rfl rfl yB (zA rfl)) ?_))
  refine d_gD rfl rfl rfl rfl rfl (zD (zE rfl rfl zGa (zA rfl)) ?_)
  refine d_gD rfl rfl rfl rfl rfl (zR rfl (zJ rfl rfl rfl sh24 rfl (zA rfl)) ?_)
  refine d_gD rfl rfl rfl rfl rfl (zR rfl (zJ rfl rfl rfl sh75 rfl (zA rfl)) ?_)
  refine d_gD rfl rfl rfl rfl rfl (zD (zC rfl (zA rfl)) (d_gD rfl rfl rfl rfl rfl (zBQ rfl (q55) (.int _ _) (.lrefl _) ?_)))
  refine d_gD rfl rfl rfl rfl rfl (zD (zP rfl (q90) (.lrefl _) (zA rfl)) ?_)
  refine zD (za rfl rfl rfl (zA rfl)) ?_
  refine yI [(1,.lst .ro 1 (zG L)),(2,U.box 0 0),(22,U.bool z2)] [] ([SB.box (Bk.cs b)]) (.cons rfl (.cons rfl (.cons rfl (.nil rfl)))) rfl rfl fun fr=>?_
  refine zD (zC rfl (zA rfl)) ?_
  refine d_guardX rfl rfl rfl rfl (fun h23=>?_) (fun h23=>?_)
  ·refine zR rfl (zJ rfl rfl rfl sh75 rfl (zA rfl)) ?_
   refine d_gD rfl rfl rfl rfl (by assumption) ?_
   refine zEx rfl (q67) (.lrefl _) ?_
   refine d_gD rfl rfl rfl rfl (by assumption) ?_
   refine zD (zC rfl (zA rfl)) (d_gD rfl rfl rfl rfl (by assumption) ?_)
   refine zR rfl (zJ rfl rfl rfl sh75 rfl (zA rfl)) ?_
   refine d_gD rfl rfl rfl rfl (by assumption) ?_
   refine zD (zP rfl (q95) (.lrefl _) (zA rfl)) ?_
   refine d_gD rfl rfl rfl rfl (by assumption) ?_
   refine zD (zP rfl (q66) (.lrefl _) (zA rfl)) ?_
   refine d_gD rfl rfl rfl rfl (by assumption) ?_
   refine zD (yp rfl ze85 pl85 rfl rfl (zA rfl)) ?_
   refine d_gD rfl rfl rfl rfl (by assumption) ?_
   refine zD (zHD rfl rfl rfl rfl rfl ea (zA rfl)) ?_
   refine yI [(23,U.bool z2),(31,U.bool z3)] [] ([SB.box (Bk.cs b)]) (.cons rfl (.cons rfl (.nil rfl))) rfl rfl fun fr=>?_
   refine zD (za rfl rfl (by assumption) (zA rfl)) ?_
   refine zD (zB rfl (zA rfl)) ?_
   refine yw ?_
   refine zU ?_
   refine⟨.inr rfl,_,.cons _ _ _ _ (.tmp 4) .nil,?_⟩
   subst_vars;exact .refl _
  ·refine d_gS rfl rfl rfl rfl (by assumption) ?_
   refine d_gS rfl rfl rfl rfl (by assumption) ?_
   refine d_gS rfl rfl rfl rfl (by assumption) ?_
   refine d_gS rfl rfl rfl rfl (by assumption) ?_
   refine d_gS rfl rfl rfl rfl (by assumption) ?_
   refine d_gS rfl rfl rfl rfl (by assumption) ?_
   refine d_gS rfl rfl rfl rfl (by assumption) ?_
   refine yI [(23,U.bool z2),(31,U.tup [])] [] ([SB.box (Bk.cs b)]) (.cons rfl (.cons rfl (.nil rfl))) rfl rfl fun fr=>?_
   refine zD (zN rfl rfl (by assumption) (zA rfl)) ?_
   refine zD (zB rfl (zA rfl)) ?_
   refine yw ?_
   refine zU ?_
   refine⟨.inr rfl,_,.cons _ _ _ _ (.tmp 4) .nil,?_⟩
   subst_vars;exact .refl _
end
end Go.Proofs.YtfbmlibilcjlgaaDoor.drumBounds

set_option linter.unusedVariables false
set_option linter.unusedSimpArgs false
set_option linter.constructorNameAsVariable false
namespace Go.Proofs.YtfbmlibilcjlgaaDoor.drumBounds
open Vam
variable {is:FuncId→Bool}{orc:Known}
theorem drop_at{α:Type}{l:List α}{i:Nat}{x:α}(h:l[i]? =some x):l.drop i=x::l.drop (i+1):=by
 obtain⟨h1,h2⟩:=List.getElem?_eq_some_iff.1 h
 rw[List.drop_eq_getElem_cons h1,h2]
end Go.Proofs.YtfbmlibilcjlgaaDoor.drumBounds

set_option linter.unusedVariables false
set_option linter.unusedSimpArgs false
set_option linter.constructorNameAsVariable false
namespace Go.Proofs.YtfbmlibilcjlgaaDoor.drumBounds
open Vam
variable {is:FuncId→Bool}{orc:Known}
theorem mem_lat{f:Nat→Int}{n i:Nat}:(i:Int)∈latS f n↔i<n∧0<f i:=by
 induction n with
 |zero=>simp[latS]
 |succ n ih=>
  have e:latS f (n+1)=latS f n++if 0<f n then [(n:Int)]else []:=rfl
  rw[e,List.mem_append,ih]
  constructor
  ·rintro(h|h)
   ·exact⟨by omega,h.2⟩
   ·split at h
    ·have:=List.mem_singleton.1 h
     have:i=n:=by omega
     subst this
     exact⟨by omega,by assumption⟩
    ·cases h
  ·rintro⟨h1,h2⟩
   by_cases hn:i=n
   ·subst hn;right;rw[if_pos h2];exact List.mem_singleton.2 rfl
   ·exact .inl ⟨by omega,h2⟩
theorem lat_lt{f:Nat→Int}{n:Nat}:∀x∈latS f n,0≤x∧x<n:=by
 induction n with
 |zero=>intro x hx;cases hx
 |succ n ih=>
  intro x hx
  have e:latS f (n+1)=latS f n++if 0<f n then [(n:Int)]else []:=rfl
  rw[e]at hx
  rcases List.mem_append.1 hx with h|h
  ·have:=ih x h;omega
  ·split at h
   ·have:=List.mem_singleton.1 h;omega
   ·cases h
end Go.Proofs.YtfbmlibilcjlgaaDoor.drumBounds

set_option linter.unusedVariables false
set_option linter.unusedSimpArgs false
set_option linter.constructorNameAsVariable false
namespace Go.Proofs.YtfbmlibilcjlgaaDoor.drumBounds
open Vam
variable {is:FuncId→Bool}{orc:Known}
theorem by68:Program.bytesOf Tryd.prog 68=40:=by kernel_rfl
theorem pl68:zDx Tryd.prog 68=some [(0,2),(2,1)]:=by kernel_rfl
theorem ze27:yV Tryd.prog 27=some ((.cons (.int .i64 0) (.cons (.int .i64 0) (.cons .nils (.cons (.int .i64 0) (.cons (.int .i64 0) (.cons (.int .i64 0) (.cons (.int .i64 0) (.cons (.int .i64 0) (.cons (.int .i64 0) (.cons (.int .i64 0) (.cons .nils .nil))))))))))):V):=by kernel_rfl
theorem ap25_25:AppT Tryd.prog 25 25 68 3 40 ((.cons (.int .i64 0) (.cons (.int .i64 0) (.cons .nils .nil))):V):=⟨ty25,⟨_,ty25⟩,cl68,by decide,by68,ze68,rfl⟩
end Go.Proofs.YtfbmlibilcjlgaaDoor.drumBounds
