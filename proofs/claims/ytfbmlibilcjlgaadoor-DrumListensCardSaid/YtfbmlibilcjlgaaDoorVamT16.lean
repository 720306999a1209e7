import Derived.Test.YtfbmlibilcjlgaaDoorVamT15
set_option linter.unusedVariables false
set_option linter.unusedSimpArgs false
set_option linter.constructorNameAsVariable false
namespace Go.Proofs.YtfbmlibilcjlgaaDoor.drumListens
open Vam
variable {is:FuncId→Bool}{orc:Known}{b:Bk}
noncomputable def b84:Code:=(Tryd.f84.body).getD .skip
theorem body84:bodyOf Tryd.prog 84=some (29,b84,[.tmp 4]):=by kernel_rfl
theorem pure84:pureFn Tryd.prog 84=true:=by kernel_rfl
noncomputable def b81:Code:=(Tryd.f81.body).getD .skip
theorem body81:bodyOf Tryd.prog 81=some (13,b81,[.tmp 4]):=by kernel_rfl
theorem pure81:pureFn Tryd.prog 81=false:=by kernel_rfl
noncomputable def b82:Code:=(Tryd.f82.body).getD .skip
theorem body82:bodyOf Tryd.prog 82=some (18,b82,[.tmp 4]):=by kernel_rfl
theorem pure82:pureFn Tryd.prog 82=true:=by kernel_rfl
noncomputable def b83:Code:=(Tryd.f83.body).getD .skip
theorem body83:bodyOf Tryd.prog 83=some (14,b83,[.tmp 4]):=by kernel_rfl
theorem pure83:pureFn Tryd.prog 83=true:=by kernel_rfl
theorem pl107:zEx Tryd.prog 107=some [(0,11),(11,1)]:=by kernel_rfl
theorem ze107:yQ Tryd.prog 107=some ((.cons (.int .i64 0) (.cons (.int .i64 0) (.cons .nils (.cons (.int .i64 0) (.cons (.int .i64 0) (.cons (.int .i64 0) (.cons (.int .i64 0) (.cons (.int .i64 0) (.cons (.int .i64 0) (.cons (.int .i64 0) (.cons .nils (.cons .nils .nil)))))))))))):V):=by kernel_rfl
noncomputable def b36:Code:=(Tryd.f36.body).getD .skip
theorem body36:bodyOf Tryd.prog 36=some (30,b36,[.tmp 6,.tmp 7]):=by kernel_rfl
theorem pure36:pureFn Tryd.prog 36=true:=by kernel_rfl
noncomputable def hasB(b:Bk)(H:List Int)(part d:Int):Bool:=((wS b).filter (fun q=>fitB q H)).any fun q=>decide (q[part.toNat]? =some d)
noncomputable def knJ(b:Bk)(H:List Int)(part:Int):Nat→List Int
 |0=>[]
 |n+1=>knJ b H part n++(if hasB b H part n=true then [(n:Int)]else [])
theorem knJ_len(b:Bk)(H:List Int)(part:Int)(n:Nat):(knJ b H part n).length≤n:=by
 induction n with
 |zero=>exact Nat.le_refl _
 |succ n ih=>
  show(knJ b H part n++_).length≤_
  rw[List.length_append]
  split<;>simp<;>omega
set_option maxHeartbeats 8000000 in
theorem ret84(hi:Off is)(hb:BOk b){H:List Int}(hH:(H.length:Int)=b.parts - 1)(hr:∀x∈H, -2≤x∧x≤1){part:Int}(hp:0≤part):RetP Tryd.prog is orc 84 [lisU b H,.int .i64 part] (.lst .ro 1 (zD (knJ b H part 4))):=by
 refine zw body84 pure84 (hi 84 (by decide)) rfl rfl (yj (zGQ b H 4) (.int _ _ _)) (.inl (zg 6 .ro (fun h=>by cases h) 1 _)) ?_
 refine kQ (zr rfl rfl (zC rfl (zB ?_)))
 refine zK [(1,.int .i64 part),(2,U.box 0 0)] ([SB.box [.int .i64 (Bk.parts b),.int .i64 (Bk.size b),.lst .ro 1 (zD (Bk.beats b)),.int .i64 (Bk.start b),.int .i64 (Bk.fin b),.int .i64 (Bk.tlo b),.int .i64 (Bk.thi b),.int .i64 (Bk.slo b),.int .i64 (Bk.shi b),.int .i64 (Bk.notice b),.lst .ro 3 (plsU (Bk.players b)),.lst .ro 1 (zD H)]]) (.cons rfl (.cons rfl (.nil rfl))) rfl fun fr=>?_
 refine kQ (zO rfl rfl rfl sh107 rfl ?_)
 refine zCi rfl (wpc113 hi hb hH hr) (.lrefl _) (fun u st1 hM=>?_)
 obtain⟨rfl,hm⟩:=hM
 refine zC rfl (zB (kQ (zC rfl (zB (k_seq (kQ (zA rfl (zB ?_))))))))
 refine zM ?_
 refine yi (fun kk s2=>∃(j:Nat) (kd:Kd) (z:Nat),kk+j=4∧((kd=.full∧z=0∧knJ b H part j=[])∨(kd=.own∧z=1))∧s2.st=st1∧Holds s2 [(1,.int .i64 part),(5,.mp 2),(6,.lst kd z (zD (knJ b H part j))),(10,.int .i64 j)]) (fun kk s2 hI=>?_) 4 _ ⟨0,.full,0,rfl,.inl ⟨rfl,rfl,rfl⟩,rfl,.c4 rfl rfl rfl rfl (.nil rfl)⟩
 obtain⟨j,kd,z,hk,hkd,hst2,hs2⟩:=hI
 have hlen:=knJ_len b H part j
 by_cases hj:j<4
 ·have hg:=mapL_get ((wS b).filter (fun q=>fitB q H)) (a:=part) (c:=j) hp
  have hsu:knJ b H part (j+1)=knJ b H part j++(if hasB b H part j=true then [(j:Int)]else []):=rfl
  have hpr:=zFJ ((wS b).filter (fun q=>fitB q H))
  generalize hM:mapL ((wS b).filter (fun q=>fitB q H))=es at*
  have hg:getK es (yD part j)=if hasB b H part j=true then some (.bool true)else none:=hg
  generalize hasB b H part j=g at hg hsu
  generalize knJ b H part j=A at*
  cases g with
  |false=>
   refine zK _ _ hs2 hst2 fun fr2=>?_
   refine kQ (zc rfl rfl rfl (zB (k_seq (k_cT rfl (decide_eq_true (by omega)) (zQ (k_seq (zM (kQ ?_))))))))
   refine zA rfl (zC rfl (zB (kQ (zA rfl (zA rfl (zA rfl (wT rfl ze125 pl125 rfl rfl ?_)))))))
   refine o_lookup (key:=yD part j) (kt:=125) (el:=4) (z:=.bool false) (r:=.bool false) (ok:=false) rfl ty136 rfl hm rfl (keyP hpr _ _) zv4 rfl (fun m hm=>by cases hm) (by rw[hg];rfl) ?_
   refine zB (k_cF rfl rfl ?_)
   refine zQ (k_region ?_)
   refine yU rfl rfl rfl (by unfold I64;omega) (zA rfl (zB ?_))
   rw[if_neg (by simp),List.append_nil]at hsu
   rw[←hsu]at hkd
   exact⟨kk - 1,by omega,j+1,kd,z,by omega,hkd,rfl,.cons rfl (.cons rfl (.cons (by rw[hsu];rfl) (.cons rfl (.nil rfl))))⟩
  |true=>
   rcases hkd with ⟨rfl,rfl,rfl⟩|⟨rfl,rfl⟩
   ·refine zK _ _ hs2 hst2 fun fr2=>?_
    refine kQ (zc rfl rfl rfl (zB (k_seq (k_cT rfl (decide_eq_true (by omega)) (zQ (k_seq (zM (kQ ?_))))))))
    refine zA rfl (zC rfl (zB (kQ (zA rfl (zA rfl (zA rfl (wT rfl ze125 pl125 rfl rfl ?_)))))))
    refine o_lookup (key:=yD part j) (kt:=125) (el:=4) (z:=.bool false) (r:=.bool true) (ok:=false) rfl ty136 rfl hm rfl (keyP hpr _ _) zv4 rfl (fun m hm=>by cases hm) (by rw[hg];rfl) ?_
    refine zB (k_cT rfl rfl ?_)
    refine k_region (zA rfl (zA rfl (wX (es:=[.int .i64 ↑j]) rfl ty22 ze3 cl3 rfl rfl rfl rfl rfl rfl rfl rfl ?_)))
    refine wP rfl ap22_22 rfl rfl (by simp) (by simp) (by simp[yK,zn,oneU]) (by simp) ?_
    refine zC rfl (zB ?_)
    refine zK [(1,.int .i64 part),(5,U.mp 2),(6,U.lst Kd.own 1 [.int .i64 ↑j]),(10,.int .i64 ↑j)] (st1) (.c4 rfl rfl rfl rfl (.nil rfl)) rfl fun fr=>?_
    refine k_region ?_
    refine yU rfl rfl rfl (by unfold I64;omega) (zA rfl (zB ?_))
    exact⟨kk - 1,by omega,j+1,.own,1,by omega,.inr ⟨rfl,rfl⟩,rfl,.cons rfl (.cons rfl (.cons (by rw[hsu];rfl) (.cons rfl (.nil rfl))))⟩
   ·refine zK _ _ hs2 hst2 fun fr2=>?_
    refine kQ (zc rfl rfl rfl (zB (k_seq (k_cT rfl (decide_eq_true (by omega)) (zQ (k_seq (zM (kQ ?_))))))))
    refine zA rfl (zC rfl (zB (kQ (zA rfl (zA rfl (zA rfl (wT rfl ze125 pl125 rfl rfl ?_)))))))
    refine o_lookup (key:=yD part j) (kt:=125) (el:=4) (z:=.bool false) (r:=.bool true) (ok:=false) rfl ty136 rfl hm rfl (keyP hpr _ _) zv4 rfl (fun m hm=>by cases hm) (by rw[hg];rfl) ?_
    refine zB (k_cT rfl rfl ?_)
    refine k_region (zA rfl (zA rfl (wX (es:=[.int .i64 ↑j]) rfl ty22 ze3 cl3 rfl rfl rfl rfl rfl rfl rfl rfl ?_)))
    refine wY 6 rfl ap22_22 rfl rfl rfl (by simp) (by simp) (by simp[yK,zn,oneU]) (by simp at hlen ⊢;omega) ?_
    refine zC rfl (zB ?_)
    refine zK [(1,.int .i64 part),(5,U.mp 2),(6,U.lst Kd.own 1 (zD A++[.int .i64 ↑j])),(10,.int .i64 ↑j)] (st1) (.c4 rfl rfl rfl rfl (.nil rfl)) rfl fun fr=>?_
    refine k_region ?_
    refine yU rfl rfl rfl (by unfold I64;omega) (zA rfl (zB ?_))
    exact⟨kk - 1,by omega,j+1,.own,1,by omega,.inr ⟨rfl,rfl⟩,rfl,.cons rfl (.cons rfl (.cons (by rw[hsu];simp[zD];rfl) (.cons rfl (.nil rfl))))⟩
 ·have hje:j=4:=by omega
  subst hje
  generalize knJ b H part 4=A at*
  rcases hkd with ⟨rfl,rfl,rfl⟩|⟨rfl,rfl⟩
  ·refine zK _ _ hs2 hst2 fun fr2=>?_
   refine kQ (zc rfl rfl rfl (zB (k_seq (k_cF rfl rfl ?_))))
   refine yX (kQ (zA rfl (zA rfl (yB rfl ty22 rfl (List.length_map _) ?_))))
   refine zA rfl (yB rfl ty22 rfl (List.length_map _) ?_)
   refine zDm rfl ty22 cl3 rfl (by simp) rfl rfl (Nat.le_refl _) ?_
   refine zC rfl (zB (zU ?_))
   refine⟨.inr rfl,_,.cons _ _ _ _ (.tmp 4) .nil,?_⟩
   exact .ro _ _ _
  ·refine zK _ _ hs2 hst2 fun fr2=>?_
   refine kQ (zc rfl rfl rfl (zB (k_seq (k_cF rfl rfl ?_))))
   refine yX (kQ (zA rfl (zA rfl (yB rfl ty22 rfl (List.length_map _) ?_))))
   refine zA rfl (yB rfl ty22 rfl (List.length_map _) ?_)
   refine zDm rfl ty22 cl3 rfl (by simp) rfl rfl (by simp) ?_
   refine zC rfl (zB (zU ?_))
   refine⟨.inr rfl,_,.cons _ _ _ _ (.tmp 4) .nil,?_⟩
   have huw:UW (.u (.lst .full 1 (List.take A.length (zD A)))) (.u (.lst .ro 1 (zD A))):=by
    rw[List.take_of_length_le (by simp[zD])];exact .ro _ _ _
   exact huw
set_option maxHeartbeats 8000000 in
theorem ret82(hi:Off is)(b:Bk)(H:List Int)(hl:H.length≤4096)(hp:1≤b.parts∧b.parts≤8):RetP Tryd.prog is orc 82 [b.u,.lst .ro 1 (zD H)] (.bool (decide ((H.length:Int)=b.parts - 1)&&H.all (inS (-2) 1))):=by
 refine zw body82 pure82 (hi 82 (by decide)) rfl rfl (yj (yg b 4) (zg 6 .ro (fun h=>by cases h) 1 H)) (.inl (.bool _ _)) ?_
 have q92:=ret92 (orc:=orc) hi (-2) 1 H hl
 generalize H.all (inS (-2) 1)=z at*
 by_cases h:(H.length:Int)=b.parts - 1
 ·rw[decide_eq_true h]
  refine kQ (zr rfl rfl (zC rfl (zB ?_)))
  refine zK [(1,.lst .ro 1 (zD H)),(2,U.box 0 0)] ([SB.box [.int .i64 (Bk.parts b),.int .i64 (Bk.size b),.lst .ro 1 (zD (Bk.beats b)),.int .i64 (Bk.start b),.int .i64 (Bk.fin b),.int .i64 (Bk.tlo b),.int .i64 (Bk.thi b),.int .i64 (Bk.slo b),.int .i64 (Bk.shi b),.int .i64 (Bk.notice b),.lst .ro 3 (plsU (Bk.players b))]]) (.cons rfl (.cons rfl (.nil rfl))) rfl fun fr=>?_
  refine kQ (zA rfl (yB rfl ty22 rfl (List.length_map _) ?_))
  refine zF rfl rfl yW (zF rfl rfl yp (zG rfl rfl rfl sh3 rfl ?_))
  refine wF rfl rfl rfl (by unfold I64;omega) (wG rfl rfl rfl (zA rfl (o_gD rfl rfl rfl rfl (decide_eq_true (by omega)) ?_)))
  refine zAw (i:=9) (c:=2) (n:=10) sh24 rfl rfl rfl (decide_eq_true (by omega)) rfl rfl zDd cl24 rfl rfl rfl (gatB 9 (by decide)) rfl ?_
  refine o_gD rfl rfl rfl rfl (decide_eq_true (by omega)) ?_
  refine zA rfl (o_gD rfl rfl rfl rfl (decide_eq_true (by omega)) ?_)
  refine zN rfl (q92) (.lrefl _) (zX rfl rfl (decide_eq_true (by omega)) ?_)
  refine zC rfl (zB (zU ?_))
  refine⟨.inr rfl,_,.cons _ _ _ _ (.tmp 4) .nil,?_⟩
  exact .refl _
  done
 ·rw[decide_eq_false h]
  refine kQ (zr rfl rfl (zC rfl (zB ?_)))
  refine zK [(1,.lst .ro 1 (zD H)),(2,U.box 0 0)] ([SB.box [.int .i64 (Bk.parts b),.int .i64 (Bk.size b),.lst .ro 1 (zD (Bk.beats b)),.int .i64 (Bk.start b),.int .i64 (Bk.fin b),.int .i64 (Bk.tlo b),.int .i64 (Bk.thi b),.int .i64 (Bk.slo b),.int .i64 (Bk.shi b),.int .i64 (Bk.notice b),.lst .ro 3 (plsU (Bk.players b))]]) (.cons rfl (.cons rfl (.nil rfl))) rfl fun fr=>?_
  refine kQ (zA rfl (yB rfl ty22 rfl (List.length_map _) ?_))
  refine zF rfl rfl yW (zF rfl rfl yp (zG rfl rfl rfl sh3 rfl ?_))
  refine wF rfl rfl rfl (by unfold I64;omega) (wG rfl rfl rfl (zA rfl (o_gS rfl rfl rfl rfl (decide_eq_false (by omega)) ?_)))
  refine zV [(1,.lst .ro 1 (zD H)),(12,U.bool (decide (↑(List.length H)=Bk.parts b - (1:Int)))),(13,U.tup [])] [] ([SB.box [.int .i64 (Bk.parts b),.int .i64 (Bk.size b),.lst .ro 1 (zD (Bk.beats b)),.int .i64 (Bk.start b),.int .i64 (Bk.fin b),.int .i64 (Bk.tlo b),.int .i64 (Bk.thi b),.int .i64 (Bk.slo b),.int .i64 (Bk.shi b),.int .i64 (Bk.notice b),.lst .ro 3 (plsU (Bk.players b))]]) (.cons rfl (.cons rfl (.cons rfl (.nil rfl)))) rfl rfl fun fr=>?_
  refine o_gS rfl rfl rfl rfl (decide_eq_false (by omega)) ?_
  refine o_gS rfl rfl rfl rfl (decide_eq_false (by omega)) ?_
  refine o_gS rfl rfl rfl rfl (decide_eq_false (by omega)) ?_
  refine zR rfl rfl (decide_eq_false (by omega)) ?_
  refine zC rfl (zB (zU ?_))
  refine⟨.inr rfl,_,.cons _ _ _ _ (.tmp 4) .nil,?_⟩
  exact .refl _
  done
set_option maxHeartbeats 8000000 in
theorem ret83(hi:Off is)(b:Bk)(n:Int):RetP Tryd.prog is orc 83 [b.u,.int .i64 n] (.bool (decide (0≤n)&&decide (n<b.parts))):=by
 refine zw body83 pure83 (hi 83 (by decide)) rfl rfl (yj (yg b 4) (.int _ _ _)) (.inl (.bool _ _)) ?_
 by_cases h:0≤n
 ·rw[decide_eq_true h]
  refine kQ (zr rfl rfl (zC rfl (zB ?_)))
  refine zK [(1,.int .i64 n),(2,U.box 0 0)] ([SB.box [.int .i64 (Bk.parts b),.int .i64 (Bk.size b),.lst .ro 1 (zD (Bk.beats b)),.int .i64 (Bk.start b),.int .i64 (Bk.fin b),.int .i64 (Bk.tlo b),.int .i64 (Bk.thi b),.int .i64 (Bk.slo b),.int .i64 (Bk.shi b),.int .i64 (Bk.notice b),.lst .ro 3 (plsU (Bk.players b))]]) (.cons rfl (.cons rfl (.nil rfl))) rfl fun fr=>?_
  refine kQ (zA rfl (zCh rfl rfl rfl (zA rfl (o_gD rfl rfl rfl rfl (decide_eq_true (by omega)) ?_))))
  refine zA rfl (o_gD rfl rfl rfl rfl (decide_eq_true (by omega)) ?_)
  refine zF rfl rfl yW (o_gD rfl rfl rfl rfl (decide_eq_true (by omega)) ?_)
  refine zF rfl rfl yp (o_gD rfl rfl rfl rfl (decide_eq_true (by omega)) ?_)
  refine zG rfl rfl rfl sh3 rfl (o_gD rfl rfl rfl rfl (decide_eq_true (by omega)) ?_)
  refine zc rfl rfl rfl (zX rfl rfl (decide_eq_true (by omega)) ?_)
  refine zC rfl (zB (zU ?_))
  refine⟨.inr rfl,_,.cons _ _ _ _ (.tmp 4) .nil,?_⟩
  exact .refl _
  done
 ·rw[decide_eq_false h]
  refine kQ (zr rfl rfl (zC rfl (zB ?_)))
  refine zK [(1,.int .i64 n),(2,U.box 0 0)] ([SB.box [.int .i64 (Bk.parts b),.int .i64 (Bk.size b),.lst .ro 1 (zD (Bk.beats b)),.int .i64 (Bk.start b),.int .i64 (Bk.fin b),.int .i64 (Bk.tlo b),.int .i64 (Bk.thi b),.int .i64 (Bk.slo b),.int .i64 (Bk.shi b),.int .i64 (Bk.notice b),.lst .ro 3 (plsU (Bk.players b))]]) (.cons rfl (.cons rfl (.nil rfl))) rfl fun fr=>?_
  refine kQ (zA rfl (zCh rfl rfl rfl (zA rfl (o_gS rfl rfl rfl rfl (decide_eq_false (by omega)) ?_))))
  refine o_gS rfl rfl rfl rfl (decide_eq_false (by omega)) ?_
  refine o_gS rfl rfl rfl rfl (decide_eq_false (by omega)) ?_
  refine o_gS rfl rfl rfl rfl (decide_eq_false (by omega)) ?_
  refine o_gS rfl rfl rfl rfl (decide_eq_false (by omega)) ?_
  refine zR rfl rfl (decide_eq_false (by omega)) ?_
  refine zC rfl (zB (zU ?_))
  refine⟨.inr rfl,_,.cons _ _ _ _ (.tmp 4) .nil,?_⟩
  exact .refl _
  done
set_option maxHeartbeats 8000000 in
theorem wpc81(hi:Off is)(hb:BOk b){H:List Int}(hH:(H.length:Int)=b.parts - 1)(hr:∀x∈H, -2≤x∧x≤1){part:Int}(hp:0≤part∧part<b.parts){st:List SB}{j k:Nat}(hj:st[j]? =some (.box [.lst .ro 1 (zD H)]))(hk:st[k]? =some (.box [.int .i64 part])):WpC Tryd.prog is orc 81 [b.u,.box j 0,.box k 0] st fun u st'=>u=.bool true∧∃e,st'=st++e:=by
 refine zCK body81 pure81 rfl rfl ?_
 have hpa:=hb.pa
 have q82:=ret82 (orc:=orc) hi b H (by omega) hpa
 rw[decide_eq_true hH,show H.all (inS (-2) 1)=true from by rw[List.all_eq_true];exact fun x hx=>zDZ.2 (hr x hx)]at q82
 have q83:=ret83 (orc:=orc) hi b part
 rw[decide_eq_true hp.1,decide_eq_true hp.2]at q83
 refine kQ (zr rfl rfl (zC rfl (zB ?_)))
 refine zK [(1,U.box j 0),(2,U.box k 0),(3,U.box (List.length st) 0)] (st++[SB.box [.int .i64 (Bk.parts b),.int .i64 (Bk.size b),.lst .ro 1 (zD (Bk.beats b)),.int .i64 (Bk.start b),.int .i64 (Bk.fin b),.int .i64 (Bk.tlo b),.int .i64 (Bk.thi b),.int .i64 (Bk.slo b),.int .i64 (Bk.shi b),.int .i64 (Bk.notice b),.lst .ro 3 (plsU (Bk.players b))]]) (.cons rfl (.cons rfl (.cons rfl (.nil rfl)))) rfl fun fr=>?_
 refine kQ (zO rfl rfl (zq _ _) sh75 rfl ?_)
 refine zG rfl rfl (yE hj) sh22 rfl ?_
 refine zN rfl (q82) (.lrefl _) (zA rfl (o_gD rfl rfl rfl rfl rfl (zO rfl rfl (zq _ _) sh75 rfl ?_)))
 refine o_gD rfl rfl rfl rfl rfl (zG rfl rfl (yE hk) sh3 rfl ?_)
 refine o_gD rfl rfl rfl rfl rfl (zN rfl (q83) (.lrefl _) (zX rfl rfl rfl ?_))
 refine zC rfl (zB (zU ?_))
 refine⟨.inr rfl,_,.cons _ _ _ _ (.tmp 4) .nil,?_⟩
 exact⟨_,.refl _,rfl,_,rfl⟩
set_option maxHeartbeats 8000000 in
theorem ret36(hi:Off is)(hb:BOk b){H:List Int}(hH:(H.length:Int)=b.parts - 1)(hr:∀x∈H, -2≤x∧x≤1){part:Int}(hp:0≤part∧part<b.parts):RetP Tryd.prog is orc 36 [b.u,.lst .ro 1 (zD H),.int .i64 part] (.tup [.lst .ro 1 (zD (knJ b H part 4)),.int .i64 (if knJ b H part 4=[]then 4 else 0)]):=by
 refine zw body36 pure36 (hi 36 (by decide)) rfl rfl (fun u hu=>?_) (.inr ⟨_,rfl,yj (k:=7) (zg 5 .ro (fun h=>by cases h) 1 _) (.int _ _ _)⟩) ?_
 ·simp only[List.mem_cons,List.not_mem_nil,or_false]at hu
  rcases hu with rfl|rfl|rfl
  ·exact yg b 4
  ·exact zg 6 .ro (fun h=>by cases h) 1 H
  ·exact .int _ _ _
 refine kQ (zr rfl rfl (zr rfl rfl (zr rfl rfl (zC rfl (zC rfl (zB ?_))))))
 refine zK [(3,U.box 0 0),(4,U.box 1 0),(5,U.box 2 0)] ([SB.box [.int .i64 (Bk.parts b),.int .i64 (Bk.size b),.lst .ro 1 (zD (Bk.beats b)),.int .i64 (Bk.start b),.int .i64 (Bk.fin b),.int .i64 (Bk.tlo b),.int .i64 (Bk.thi b),.int .i64 (Bk.slo b),.int .i64 (Bk.shi b),.int .i64 (Bk.notice b),.lst .ro 3 (plsU (Bk.players b))],SB.box [.lst .ro 1 (zD H)],SB.box [.int .i64 part]]) (.cons rfl (.cons rfl (.cons rfl (.nil rfl)))) rfl fun fr=>?_
 refine kQ (zO rfl rfl rfl sh27 rfl ?_)
 refine zEm rfl ?_
 refine wX (es:=[U.fn 81 [] [U.box 1 0,U.box 2 0]]) rfl ty116 ze83 cl83 rfl rfl rfl rfl rfl rfl rfl rfl ?_
 refine zCi rfl (wpc60v hi hb (fun X=>wpc81 hi hb hH hr hp (j:=1) (k:=2) (yE rfl) (yE rfl))) (.lcons _ _ _ _ (.refl _) (.lcons _ _ _ _ (.ro _ _ _) (.lrefl _))) (fun u st1 hM=>?_)
 obtain⟨rfl,e,hY⟩:=hM
 have y1:st1[1]? =some (.box [.lst .ro 1 (zD H)]):=by rw[hY];rfl
 have y2:st1[2]? =some (.box [.int .i64 part]):=by rw[hY];rfl
 clear hY
 have q84:=ret84 (orc:=orc) hi hb hH hr hp.1
 generalize knJ b H part 4=A at*
 cases A with
 |nil=>
  rw[if_pos rfl]
  refine zA rfl (zj rfl rfl rfl (zj rfl rfl rfl (zu rfl ze75 ?_)))
  refine zl rfl (zq _ _) sh75 rfl rfl rfl rfl rfl ?_
  refine zC rfl (zB ?_)
  refine zK [(4,U.box 1 0),(5,U.box 2 0),(8,U.box (List.length st1) 0),(9,.int .i64 0)] (st1++[SB.box [.int .i64 (Bk.parts b),.int .i64 (Bk.size b),.lst .ro 1 (zD (Bk.beats b)),.int .i64 (Bk.start b),.int .i64 (Bk.fin b),.int .i64 (Bk.tlo b),.int .i64 (Bk.thi b),.int .i64 (Bk.slo b),.int .i64 (Bk.shi b),.int .i64 (Bk.notice b),.lst .ro 3 (plsU (Bk.players b))]]) (.c4 rfl rfl rfl rfl (.nil rfl)) (wD _ _ _) fun fr=>?_
  refine k_seq (kQ (zA rfl (zAr rfl rfl rfl (zB (k_cF rfl rfl ?_)))))
  refine zQ (kQ (zO rfl rfl (zq _ _) sh75 rfl ?_))
  refine zG rfl rfl (yE y1) sh22 rfl ?_
  refine wT rfl ze107 pl107 rfl rfl ?_
  refine zG rfl rfl (yE y2) sh3 rfl ?_
  refine zN rfl (q84) (.lrefl _) (zC rfl (zB (k_seq (kQ (zA rfl (yB rfl ty22 rfl (List.length_map _) ?_))))))
  refine wG rfl rfl rfl (zB ?_)
  refine zK [(10,.lst .ro 1 (zD [])),(28,U.bool (decide (↑(List.length [])=(0:Int))))] (st1++[SB.box [.int .i64 (Bk.parts b),.int .i64 (Bk.size b),.lst .ro 1 (zD (Bk.beats b)),.int .i64 (Bk.start b),.int .i64 (Bk.fin b),.int .i64 (Bk.tlo b),.int .i64 (Bk.thi b),.int .i64 (Bk.slo b),.int .i64 (Bk.shi b),.int .i64 (Bk.notice b),.lst .ro 3 (plsU (Bk.players b))]]) (.cons rfl (.cons rfl (.nil rfl))) rfl fun fr=>?_
  refine k_cT rfl rfl ?_
  refine kQ (zC rfl (zC rfl (zB (zU ?_))))
  refine⟨.inr rfl,_,.cons _ _ _ _ (.tmp 6) (.cons _ _ _ _ (.tmp 7) .nil),?_⟩
  exact .tup _ _ (.lcons _ _ _ _ (.nil .full .ro 1) (.lrefl _))
 |cons a A=>
  rw[if_neg (by simp)]
  have k28:decide (((a::A).length:Int)=0)=false:=decide_eq_false (by simp;omega)
  refine zA rfl (zj rfl rfl rfl (zj rfl rfl rfl (zu rfl ze75 ?_)))
  refine zl rfl (zq _ _) sh75 rfl rfl rfl rfl rfl ?_
  refine zC rfl (zB ?_)
  refine zK [(4,U.box 1 0),(5,U.box 2 0),(8,U.box (List.length st1) 0),(9,.int .i64 0)] (st1++[SB.box [.int .i64 (Bk.parts b),.int .i64 (Bk.size b),.lst .ro 1 (zD (Bk.beats b)),.int .i64 (Bk.start b),.int .i64 (Bk.fin b),.int .i64 (Bk.tlo b),.int .i64 (Bk.thi b),.int .i64 (Bk.slo b),.int .i64 (Bk.shi b),.int .i64 (Bk.notice b),.lst .ro 3 (plsU (Bk.players b))]]) (.c4 rfl rfl rfl rfl (.nil rfl)) (wD _ _ _) fun fr=>?_
  refine k_seq (kQ (zA rfl (zAr rfl rfl rfl (zB (k_cF rfl rfl ?_)))))
  refine zQ (kQ (zO rfl rfl (zq _ _) sh75 rfl ?_))
  refine zG rfl rfl (yE y1) sh22 rfl ?_
  refine wT rfl ze107 pl107 rfl rfl ?_
  refine zG rfl rfl (yE y2) sh3 rfl ?_
  refine zN rfl (q84) (.lrefl _) (zC rfl (zB (k_seq (kQ (zA rfl (yB rfl ty22 rfl (List.length_map _) ?_))))))
  refine wG rfl rfl rfl (zB ?_)
  refine zK [(10,.lst .ro 1 (zD (a::A))),(28,U.bool (decide (↑(List.length (a::A))=(0:Int))))] (st1++[SB.box [.int .i64 (Bk.parts b),.int .i64 (Bk.size b),.lst .ro 1 (zD (Bk.beats b)),.int .i64 (Bk.start b),.int .i64 (Bk.fin b),.int .i64 (Bk.tlo b),.int .i64 (Bk.thi b),.int .i64 (Bk.slo b),.int .i64 (Bk.shi b),.int .i64 (Bk.notice b),.lst .ro 3 (plsU (Bk.players b))]]) (.cons rfl (.cons rfl (.nil rfl))) rfl fun fr=>?_
  refine k_cF rfl (by assumption) (zQ (kQ (zA rfl (zC rfl (zC rfl (zB (zU ?_)))))))
  refine⟨.inr rfl,_,.cons _ _ _ _ (.tmp 6) (.cons _ _ _ _ (.tmp 7) .nil),?_⟩
  exact .refl _
end Go.Proofs.YtfbmlibilcjlgaaDoor.drumListens
