import Derived.Test.YtfbmlibilcjlgaaDoorVamT27
set_option linter.unusedVariables false
set_option linter.unusedSimpArgs false
set_option linter.constructorNameAsVariable false
namespace Go.Proofs.YtfbmlibilcjlgaaDoor.drumBounds
open Vam
variable {is:FuncId→Bool}{orc:Known}{b:Bk}
noncomputable def b74:Code:=(Tryd.f74.body).getD .skip
theorem body74:bodyOf Tryd.prog 74=some (28,b74,[.tmp 2]):=by kernel_rfl
theorem pure74:pureFn Tryd.prog 74=true:=by kernel_rfl
set_option maxHeartbeats 8000000 in
theorem ret74(hi:Off is)(hb:BOk b):RetP Tryd.prog is orc 74 [b.u] (.lst .ro 1 (llU (zEc b))):=by
 refine zk body74 pure74 (hi 74 (by decide)) rfl rfl (zAH (yK b 4)) (.inl (dat_ll _ 5)) ?_
 have q104:=ret104 (orc:=orc) hi hb
 have hpa:=hb.pa
 have hok:∀q∈paths b,POk b q:=fun q hq=>(mem_paths hb).1 hq
 have hln:(paths b).length≤65536:=by
  have h1:=lvP_len b b.parts.toNat []
  have h2:4 ^ b.parts.toNat≤4 ^ 8:=Nat.pow_le_pow_right (by omega) (by omega)
  have h3:(4:Nat) ^ 8=65536:=rfl
  unfold paths;omega
 unfold zEc
 generalize paths b=W at*
 refine kQ (zc rfl rfl (zB rfl (zA ?_)))
 refine zH [(1,U.box 0 0)] ([SB.box (Bk.cs b)]) (.cons rfl (.nil rfl)) rfl fun fr=>?_
 refine kQ (zJ rfl rfl rfl sh27 rfl (zP rfl (q104) (.lrefl _) (zB rfl (zA (kQ (zB rfl (zA (k_seq ?_))))))))
 refine kQ (zB rfl (zA (zL ?_)))
 refine yh (fun kk s2=>∃(i:Nat) (kd:Kd) (z:Nat),kk+i=W.length∧((kd=.full∧z=0∧(W.take i).filter (zBh b)=[])∨(kd=.own∧z=1))∧s2.st=[.box (Bk.cs b)]∧Holds s2 [(1,.box 0 0),(3,.lst .ro 1 (llU W)),(4,.lst kd z (llU ((W.take i).filter (zBh b)))),(5,.int .i64 i)]) (fun kk s2 hI=>?_) W.length _ ⟨0,.full,0,by omega,.inl ⟨rfl,rfl,rfl⟩,rfl,.c4 rfl rfl rfl rfl (.nil rfl)⟩
 obtain⟨i,kd,z,hk,hkd,hst2,hs2⟩:=hI
 by_cases hil:i<W.length
 ·obtain⟨q,hq⟩:∃q,W[i]? =some q:=⟨W[i]'hil,List.getElem?_eq_getElem hil⟩
  have q72:=ret72 (orc:=orc) hi hb (hok q (List.mem_of_getElem? hq))
  have hsu:(W.take (i+1)).filter (zBh b)=(W.take i).filter (zBh b)++(if zBh b q=true then [q]else []):=by
   rw[List.take_add_one,hq,List.filter_append]
   congr 1
   show List.filter (zBh b) [q]=_
   rw[List.filter_cons,List.filter_nil]
  have hal:((W.take i).filter (zBh b)).length≤65536:=by
   have:=List.length_filter_le (zBh b) (W.take i)
   rw[List.length_take]at this
   omega
  generalize (W.take i).filter (zBh b)=A at*
  cases hz:zBh b q with
  |true=>
   rw[hz]at q72 hsu
   rw[if_pos rfl]at hsu
   rcases hkd with ⟨rfl,rfl,rfl⟩|⟨rfl,rfl⟩
   ·refine zH _ _ hs2 hst2 fun fr2=>?_
    refine k_seq (kQ (zC rfl (zC rfl (yF rfl ty96 rfl (List.length_map _) ?_))))
    refine zf rfl rfl rfl (zA (k_cT rfl (decide_eq_true (by omega)) (zQ (k_seq (zL (k_seq (yL [.read true,.plain,.plain,.plain,.read true,.plain] (by kernel_rfl) (by kernel_rfl) (by kernel_rfl) ?_)))))))
    refine zR rfl (zJ rfl rfl rfl sh27 rfl (zA rfl)) ?_
    refine zD (zC rfl (zA rfl)) (zD (zC rfl (zA rfl)) ?_)
    refine zD (yD (u:=.lst .ro 1 (zG q)) rfl ty96 rfl rfl (Int.natCast_nonneg _) (by rw[List.getElem?_map,Int.toNat_natCast,hq];rfl) cl22 (zA rfl)) ?_
    refine zR rfl (zT rfl rfl sh22 rfl (zA rfl)) ?_
    refine zD (zP rfl (q72) (.lrefl _) (zA rfl)) ?_
    refine yw ?_
    refine k_cT rfl rfl ?_
    refine k_region (zC rfl (zC rfl (zC rfl ?_)))
    refine yD (u:=.lst .ro 1 (zG q)) rfl ty96 rfl rfl (Int.natCast_nonneg _) (by rw[List.getElem?_map,Int.toNat_natCast,hq];rfl) cl22 ?_
    refine zT rfl rfl sh22 rfl ?_
    refine wb (es:=[U.lst Kd.ro 1 (zG q)]) rfl ty96 ze22 cl22 rfl rfl rfl rfl rfl rfl rfl rfl ?_
    refine zAQ rfl ap96_96 rfl rfl (by simp) (by simp) (by simp[yG,zq,oneU]) (by simp) ?_
    refine zB rfl (zA ?_)
    refine zH [(1,U.box 0 0),(3,.lst .ro 1 (llU W)),(4,U.lst Kd.own 1 [.lst .ro 1 (zG q)]),(5,.int .i64 ↑i)] ([SB.box (Bk.cs b)]) (.c4 rfl rfl rfl rfl (.nil rfl)) rfl fun fr=>?_
    refine k_region (zC rfl ?_)
    refine yO rfl rfl rfl (by unfold I64;omega) (zB rfl (zA ?_))
    exact⟨kk - 1,by omega,i+1,.own,1,by omega,.inr ⟨rfl,rfl⟩,rfl,.cons rfl (.cons rfl (.cons (by rw[hsu];rfl) (.cons rfl (.nil rfl))))⟩
   ·refine zH _ _ hs2 hst2 fun fr2=>?_
    refine k_seq (kQ (zC rfl (zC rfl (yF rfl ty96 rfl (List.length_map _) ?_))))
    refine zf rfl rfl rfl (zA (k_cT rfl (decide_eq_true (by omega)) (zQ (k_seq (zL (k_seq (yL [.read true,.plain,.plain,.plain,.read true,.plain] (by kernel_rfl) (by kernel_rfl) (by kernel_rfl) ?_)))))))
    refine zR rfl (zJ rfl rfl rfl sh27 rfl (zA rfl)) ?_
    refine zD (zC rfl (zA rfl)) (zD (zC rfl (zA rfl)) ?_)
    refine zD (yD (u:=.lst .ro 1 (zG q)) rfl ty96 rfl rfl (Int.natCast_nonneg _) (by rw[List.getElem?_map,Int.toNat_natCast,hq];rfl) cl22 (zA rfl)) ?_
    refine zR rfl (zT rfl rfl sh22 rfl (zA rfl)) ?_
    refine zD (zP rfl (q72) (.lrefl _) (zA rfl)) ?_
    refine yw ?_
    refine k_cT rfl rfl ?_
    refine k_region (zC rfl (zC rfl (zC rfl ?_)))
    refine yD (u:=.lst .ro 1 (zG q)) rfl ty96 rfl rfl (Int.natCast_nonneg _) (by rw[List.getElem?_map,Int.toNat_natCast,hq];rfl) cl22 ?_
    refine zT rfl rfl sh22 rfl ?_
    refine wb (es:=[U.lst Kd.ro 1 (zG q)]) rfl ty96 ze22 cl22 rfl rfl rfl rfl rfl rfl rfl rfl ?_
    refine zBx 4 rfl ap96_96 rfl rfl rfl (by simp) (by simp) rfl (by simp at hal ⊢;omega) ?_
    refine zB rfl (zA ?_)
    refine zH [(1,U.box 0 0),(3,.lst .ro 1 (llU W)),(4,U.lst Kd.own 1 (llU A++[.lst .ro 1 (zG q)])),(5,.int .i64 ↑i)] ([SB.box (Bk.cs b)]) (.c4 rfl rfl rfl rfl (.nil rfl)) rfl fun fr=>?_
    refine k_region (zC rfl ?_)
    refine yO rfl rfl rfl (by unfold I64;omega) (zB rfl (zA ?_))
    exact⟨kk - 1,by omega,i+1,.own,1,by omega,.inr ⟨rfl,rfl⟩,rfl,.cons rfl (.cons rfl (.cons (by rw[hsu];simp[llU];rfl) (.cons rfl (.nil rfl))))⟩
  |false=>
   rw[hz]at q72 hsu
   rw[if_neg (by decide),List.append_nil]at hsu
   refine zH _ _ hs2 hst2 fun fr2=>?_
   refine k_seq (kQ (zC rfl (zC rfl (yF rfl ty96 rfl (List.length_map _) ?_))))
   refine zf rfl rfl rfl (zA (k_cT rfl (decide_eq_true (by omega)) (zQ (k_seq (zL (k_seq (yL [.read true,.plain,.plain,.plain,.read true,.plain] (by kernel_rfl) (by kernel_rfl) (by kernel_rfl) ?_)))))))
   refine zR rfl (zJ rfl rfl rfl sh27 rfl (zA rfl)) ?_
   refine zD (zC rfl (zA rfl)) (zD (zC rfl (zA rfl)) ?_)
   refine zD (yD (u:=.lst .ro 1 (zG q)) rfl ty96 rfl rfl (Int.natCast_nonneg _) (by rw[List.getElem?_map,Int.toNat_natCast,hq];rfl) cl22 (zA rfl)) ?_
   refine zR rfl (zT rfl rfl sh22 rfl (zA rfl)) ?_
   refine zD (zP rfl (q72) (.lrefl _) (zA rfl)) ?_
   refine yw ?_
   refine k_cF rfl rfl ?_
   refine zQ (k_region (zC rfl ?_))
   refine yO rfl rfl rfl (by unfold I64;omega) (zB rfl (zA ?_))
   rw[←hsu]at hkd
   exact⟨kk - 1,by omega,i+1,kd,z,by omega,hkd,rfl,.cons rfl (.cons rfl (.cons (by rw[hsu];rfl) (.cons rfl (.nil rfl))))⟩
 ·have hie:i=W.length:=by omega
  subst hie
  rw[List.take_length]at hkd hs2
  generalize W.filter (zBh b)=A at*
  rcases hkd with ⟨rfl,rfl,rfl⟩|⟨rfl,rfl⟩
  ·refine zH _ _ hs2 hst2 fun fr2=>?_
   refine k_seq (kQ (zC rfl (zC rfl (yF rfl ty96 rfl (List.length_map _) ?_))))
   refine zf rfl rfl rfl (zA (k_cF rfl (decide_eq_false (by omega)) (yP (kQ (zC rfl (zB rfl (zA (zU ?_))))))))
   refine⟨.inr rfl,_,.cons _ _ _ _ (.tmp 2) .nil,?_⟩
   exact .nil _ _ _
  ·refine zH _ _ hs2 hst2 fun fr2=>?_
   refine k_seq (kQ (zC rfl (zC rfl (yF rfl ty96 rfl (List.length_map _) ?_))))
   refine zf rfl rfl rfl (zA (k_cF rfl (decide_eq_false (by omega)) (yP (kQ (zC rfl (zB rfl (zA (zU ?_))))))))
   refine⟨.inr rfl,_,.cons _ _ _ _ (.tmp 2) .nil,?_⟩
   exact .refl _
   done
end Go.Proofs.YtfbmlibilcjlgaaDoor.drumBounds

set_option linter.unusedVariables false
set_option linter.unusedSimpArgs false
set_option linter.constructorNameAsVariable false
namespace Go.Proofs.YtfbmlibilcjlgaaDoor.drumBounds
open Vam
variable {is:FuncId→Bool}{orc:Known}{b:Bk}
noncomputable def b79:Code:=(Tryd.f79.body).getD .skip
theorem body79:bodyOf Tryd.prog 79=some (13,b79,[.tmp 4]):=by kernel_rfl
theorem pure79:pureFn Tryd.prog 79=true:=by kernel_rfl
noncomputable def b34:Code:=(Tryd.f34.body).getD .skip
theorem body34:bodyOf Tryd.prog 34=some (57,b34,[.tmp 4,.tmp 5]):=by kernel_rfl
theorem pure34:pureFn Tryd.prog 34=true:=by kernel_rfl
theorem sh73:shOf Tryd.prog 73=.many 2:=by kernel_rfl
noncomputable def b35:Code:=(Tryd.f35.body).getD .skip
theorem body35:bodyOf Tryd.prog 35=some (31,b35,[.tmp 4]):=by kernel_rfl
theorem pure35:pureFn Tryd.prog 35=true:=by kernel_rfl
def errB(b:Bk)(n:Int):Int:=if wl b=false then 80 else if(decide (0≤n)&&decide (n<b.players.length))=false then 81 else 0
theorem wpc77n(hi:Off is){n:Int}(hn:(decide (0≤n)&&decide (n<b.players.length))=false){st:List SB}{k:Nat}(hk:st[k]? =some (.box [.int .i64 n])):WpC Tryd.prog is orc 77 [b.u,.box k 0] st fun u st'=>u=.bool false∧∃e,st'=st++e:=by
 refine zAW body77 pure77 rfl rfl ?_
 have q63:=ret63 (orc:=orc) hi b n
 rw[hn]at q63
 refine kQ (zc rfl rfl (zB rfl (zA ?_)))
 refine zH [(1,U.box k 0),(2,U.box (List.length st) 0)] (st++[SB.box (Bk.cs b)]) (.cons rfl (.cons rfl (.nil rfl))) rfl fun fr=>?_
 refine kQ (zJ rfl rfl (zp _ _) sh75 rfl ?_)
 refine zF rfl rfl (zo hk) sh3 rfl ?_
 refine zP rfl (q63) (.lrefl _) (zB rfl (zA (zU ?_)))
 refine⟨.inr rfl,_,.cons _ _ _ _ (.tmp 3) .nil,?_⟩
 exact⟨_,.refl _,rfl,_,rfl⟩
set_option maxHeartbeats 8000000 in
theorem ret31n(hi:Off is){n:Int}(h:errB b n≠0):RetP Tryd.prog is orc 31 [b.u,.int .i64 n] (.tup [.int .i64 0,.int .i64 (errB b n)]):=by
 refine zk body31 pure31 (hi 31 (by decide)) rfl rfl (yM (yK b 4) (.int _ _ _)) (.inr ⟨_,rfl,yM (k:=7) (.int _ _ _) (.int _ _ _)⟩) ?_
 unfold errB at h ⊢
 by_cases hv:wl b=false
 ·rw[if_pos hv]
  refine kQ (zc rfl rfl (zc rfl rfl (zB rfl (zB rfl (zA ?_)))))
  refine zH [(2,U.box 0 0),(3,U.box 1 0)] ([SB.box (Bk.cs b),SB.box [.int .i64 n]]) (.cons rfl (.cons rfl (.nil rfl))) rfl fun fr=>?_
  refine kQ (zJ rfl rfl rfl sh27 rfl ?_)
  refine zBw rfl ?_
  refine wb (es:=[U.fn 77 [] [U.box 1 0]]) rfl zFM ze83 cl83 rfl rfl rfl rfl rfl rfl rfl rfl ?_
  refine zBM rfl (wpc60j hi hv) (.lcons _ _ _ _ (.refl _) (.lcons _ _ _ _ (.ro _ _ _) (.lrefl _))) (fun u st1 hM=>?_)
  obtain⟨rfl,e,hY⟩:=hM
  refine zC rfl (zX rfl rfl rfl (zX rfl rfl rfl (zi rfl ze75 ?_)))
  refine zZ rfl (zp _ _) sh75 rfl rfl rfl rfl rfl ?_
  refine zB rfl (zA ?_)
  refine zH [(3,U.box 1 0),(6,U.box (List.length st1) 0),(7,.int .i64 80)] (st1++[SB.box [.int .i64 0,.int .i64 0,.lst .full 0 [],.int .i64 0,.int .i64 0,.int .i64 0,.int .i64 0,.int .i64 0,.int .i64 0,.int .i64 0,.lst .full 0 []]]) (.cons rfl (.cons rfl (.cons rfl (.nil rfl)))) (yx _ _ _) fun fr=>?_
  refine k_seq (kQ (zC rfl (wC rfl rfl rfl (zA (k_cT rfl rfl ?_)))))
  refine kQ (zC rfl (zB rfl (zB rfl (zA (zU ?_)))))
  refine⟨.inr rfl,_,.cons _ _ _ _ (.tmp 4) (.cons _ _ _ _ (.tmp 5) .nil),?_⟩
  exact .refl _
  done
 ·rw[if_neg hv]at h ⊢
  have hb:=(wZ b).1 (by simpa using hv)
  by_cases hp:(decide (0≤n)&&decide (n<b.players.length))=false
  ·rw[if_pos hp]
   refine kQ (zc rfl rfl (zc rfl rfl (zB rfl (zB rfl (zA ?_)))))
   refine zH [(2,U.box 0 0),(3,U.box 1 0)] ([SB.box (Bk.cs b),SB.box [.int .i64 n]]) (.cons rfl (.cons rfl (.nil rfl))) rfl fun fr=>?_
   refine kQ (zJ rfl rfl rfl sh27 rfl ?_)
   refine zBw rfl ?_
   refine wb (es:=[U.fn 77 [] [U.box 1 0]]) rfl zFM ze83 cl83 rfl rfl rfl rfl rfl rfl rfl rfl ?_
   refine zBM rfl (wpc60n hi hb (fun X=>wpc77n hi hp (k:=1) (zo rfl))) (.lcons _ _ _ _ (.refl _) (.lcons _ _ _ _ (.ro _ _ _) (.lrefl _))) (fun u st1 hM=>?_)
   obtain⟨rfl,e,hY⟩:=hM
   refine zC rfl (zX rfl rfl rfl (zX rfl rfl rfl (zi rfl ze75 ?_)))
   refine zZ rfl (zp _ _) sh75 rfl rfl rfl rfl rfl ?_
   refine zB rfl (zA ?_)
   refine zH [(3,U.box 1 0),(6,U.box (List.length st1) 0),(7,.int .i64 81)] (st1++[SB.box [.int .i64 0,.int .i64 0,.lst .full 0 [],.int .i64 0,.int .i64 0,.int .i64 0,.int .i64 0,.int .i64 0,.int .i64 0,.int .i64 0,.lst .full 0 []]]) (.cons rfl (.cons rfl (.cons rfl (.nil rfl)))) (yx _ _ _) fun fr=>?_
   refine k_seq (kQ (zC rfl (wC rfl rfl rfl (zA (k_cT rfl rfl ?_)))))
   refine kQ (zC rfl (zB rfl (zB rfl (zA (zU ?_)))))
   refine⟨.inr rfl,_,.cons _ _ _ _ (.tmp 4) (.cons _ _ _ _ (.tmp 5) .nil),?_⟩
   exact .refl _
   done
  ·rw[if_neg hp]at h;exact absurd rfl h
theorem ret79(hi:Off is)(b:Bk)(z:Bool):RetP Tryd.prog is orc 79 [b.u,.bool z] (.int .i64 (if wl b=false then 80 else if z=false then 81 else 0)):=by
 refine zk body79 pure79 (hi 79 (by decide)) rfl rfl (yM (yK b 4) (.bool _ _)) (.inl (.int _ _ _)) ?_
 have q18:=ret18 (orc:=orc) hi b
 cases hv:wl b with
 |false=>
  rw[hv]at q18
  refine kQ (zc rfl rfl (zB rfl (zA ?_)))
  refine zH [(1,U.bool z),(2,U.box 0 0)] ([SB.box (Bk.cs b)]) (.cons rfl (.cons rfl (.nil rfl))) rfl fun fr=>?_
  refine k_seq (kQ (zJ rfl rfl rfl sh27 rfl (zP rfl (q18) (.lrefl _) (zB rfl (zA (kQ (zC rfl (wC rfl rfl rfl ?_))))))))
  refine zA (k_cT rfl rfl ?_)
  refine kQ (zC rfl (zB rfl (zA (zU ?_))))
  refine⟨.inr rfl,_,.cons _ _ _ _ (.tmp 4) .nil,?_⟩
  exact .refl _
  done
 |true=>
  rw[hv]at q18
  cases z with
  |false=>
   refine kQ (zc rfl rfl (zB rfl (zA ?_)))
   refine zH [(1,.bool false),(2,U.box 0 0)] ([SB.box (Bk.cs b)]) (.cons rfl (.cons rfl (.nil rfl))) rfl fun fr=>?_
   refine k_seq (kQ (zJ rfl rfl rfl sh27 rfl (zP rfl (q18) (.lrefl _) (zB rfl (zA (kQ (zC rfl (wC rfl rfl rfl ?_))))))))
   refine zA (k_cF rfl rfl ?_)
   refine zQ (k_seq (kQ (zC rfl (yu rfl rfl (zA (k_cT rfl rfl ?_))))))
   refine kQ (zB rfl (zA (zU ?_)))
   refine⟨.inr rfl,_,.cons _ _ _ _ (.tmp 4) .nil,?_⟩
   exact .refl _
   done
  |true=>
   refine kQ (zc rfl rfl (zB rfl (zA ?_)))
   refine zH [(1,.bool true),(2,U.box 0 0)] ([SB.box (Bk.cs b)]) (.cons rfl (.cons rfl (.nil rfl))) rfl fun fr=>?_
   refine k_seq (kQ (zJ rfl rfl rfl sh27 rfl (zP rfl (q18) (.lrefl _) (zB rfl (zA (kQ (zC rfl (wC rfl rfl rfl ?_))))))))
   refine zA (k_cF rfl rfl ?_)
   refine zQ (k_seq (kQ (zC rfl (yu rfl rfl (zA (k_cF rfl rfl ?_))))))
   refine zQ (kQ (zB rfl (zA (zU ?_))))
   refine⟨.inr rfl,_,.cons _ _ _ _ (.tmp 4) .nil,?_⟩
   exact .refl _
   done
def cueL(b:Bk)(L:List Int):List Two:=if errI b L=0 then cuS b L (L.length - 1)else []
theorem ret33a(hi:Off is)(b:Bk)(L:List Int):RetP Tryd.prog is orc 33 [b.u,.lst .ro 1 (zG L)] (.tup [.lst .ro 2 (zu (cueL b L)),.int .i64 (errI b L)]):=by
 unfold cueL
 by_cases h:errI b L=0
 ·rw[if_pos h,h]
  obtain⟨hb,hp⟩:=zEM.1 h
  exact ret33 hi hb hp
 ·rw[if_neg h]
  refine zk body33 pure33 (hi 33 (by decide)) rfl rfl (yM (yK b 4) (zr 6 .ro (fun h=>by cases h) 1 L)) (.inr ⟨_,rfl,yM (k:=7) (zBD [] .ro (fun h=>by cases h) 5) (.int _ _ _)⟩) ?_
  have q54:=ret54g (orc:=orc) hi h
  generalize errI b L=er at*
  refine kQ (zc rfl rfl (zB rfl (zB rfl (zA ?_))))
  refine zH [(1,.lst .ro 1 (zG L)),(2,U.box 0 0)] ([SB.box (Bk.cs b)]) (.cons rfl (.cons rfl (.nil rfl))) rfl fun fr=>?_
  refine kQ (zJ rfl rfl rfl sh27 rfl (zC rfl (zP rfl (q54) (.lrefl _) (zC rfl (zX rfl rfl rfl (zX rfl rfl rfl (zi rfl ze75 ?_)))))))
  refine zZ rfl rfl sh75 rfl rfl rfl rfl rfl ?_
  refine zB rfl (zA ?_)
  refine zH [(1,.lst .ro 1 (zG L)),(6,U.box 1 0),(7,.int .i64 er)] ([SB.box (Bk.cs b),SB.box (Bk.cs bk0)]) (.cons rfl (.cons rfl (.cons rfl (.nil rfl)))) rfl fun fr=>?_
  refine k_seq (kQ (zC rfl (wC rfl rfl rfl (zA (k_cT rfl (decide_eq_true h) ?_)))))
  refine kQ (zC rfl (zB rfl (zB rfl (zA (zU ?_)))))
  refine⟨.inr rfl,_,.cons _ _ _ _ (.tmp 4) (.cons _ _ _ _ (.tmp 5) .nil),?_⟩
  exact .tup _ _ (.lcons _ _ _ _ (.nil .full .ro 2) (.lrefl _))
theorem eq73(x y:Int):binV Tryd.prog 73 .eql (valK (wB x y)) (valK (wB x y))=some (.bool true):=by
 have h:binV Tryd.prog 73 .eql (valK (wB x y)) (valK (wB x y))=opt none (fun x=>some (V.bool x)) (Vam.cond (ieq x x) (Vam.cond (ieq y y) (some true) (some false)) (some false)):=by kernel_rfl
 rw[h,zAo,zAo,show(x==x)=true by simp,show(y==y)=true by simp];rfl
set_option maxHeartbeats 8000000 in
theorem ret35(hi:Off is)(A:List Two)(hl:A.length≤4096):RetP Tryd.prog is orc 35 [.lst .ro 2 (zu A),.lst .ro 2 (zu A)] (.bool true):=by
 refine zk body35 pure35 (hi 35 (by decide)) rfl rfl (yM (zBD A .ro (fun h=>by cases h) 6) (zBD A .ro (fun h=>by cases h) 6)) (.inl (.bool _ _)) ?_
 refine kQ (zB rfl (zA (kQ (zC rfl (yF rfl ty46 rfl (List.length_map _) ?_)))))
 refine zC rfl (yF rfl ty46 rfl (List.length_map _) ?_)
 refine zAt rfl rfl rfl (zB rfl (zA (k_seq (kQ (zB rfl (zA (zL ?_)))))))
 refine yh (fun kk s2=>∃i:Nat,kk+i=A.length∧s2.st=[]∧Holds s2 [(0,.lst .ro 2 (zu A)),(1,.lst .ro 2 (zu A)),(5,.bool true),(6,.int .i64 i)]) (fun kk s2 hI=>?_) A.length _ ⟨0,by omega,rfl,.cons rfl (.cons rfl (.cons (by show U.bool (decide _)=_;simp) (.cons rfl (.nil rfl))))⟩
 obtain⟨i,hk,hst2,hs2⟩:=hI
 refine zH _ _ hs2 hst2 fun fr2=>?_
 by_cases hj:i<A.length
 ·have hx:A[i]? =some (A[i]'hj):=List.getElem?_eq_getElem hj
  generalize A[i]'hj=c at hx
  refine k_seq (kQ (zC rfl (zC rfl (o_gD rfl rfl rfl rfl rfl (zC rfl (o_gD rfl rfl rfl rfl rfl (zC rfl (o_gD rfl rfl rfl rfl rfl ?_))))))))
  refine yF rfl ty46 rfl (List.length_map _) ?_
  refine o_gD rfl rfl rfl rfl rfl (zf rfl rfl rfl (za rfl rfl rfl ?_))
  refine zA (k_cT rfl (decide_eq_true (by omega)) (zQ (k_seq (zL (yL [.plain,.plain,.plain,.read true,.plain,.plain,.plain,.read true,.plain,.plain] (by kernel_rfl) (by kernel_rfl) (by kernel_rfl) ?_)))))
  refine zD (zC rfl (zA rfl)) (zD (zC rfl (zA rfl)) (zD (yD (u:=(c).u) rfl ty46 rfl rfl (Int.natCast_nonneg _) (by simp[hx]) cl73 (zA rfl)) ?_))
  refine zR rfl (wJ rfl rfl sh73 rfl (zA rfl)) ?_
  refine zD (zC rfl (zA rfl)) (zD (zC rfl (zA rfl)) (zD (yD (u:=(c).u) rfl ty46 rfl rfl (Int.natCast_nonneg _) (by simp[hx]) cl73 (zA rfl)) ?_))
  refine zR rfl (wJ rfl rfl sh73 rfl (zA rfl)) ?_
  refine zD (zHD rfl rfl rfl rfl rfl (eq73 _ _) (zA rfl)) ?_
  refine zD (zB rfl (zA rfl)) ?_
  refine yw ?_
  refine k_region (zC rfl ?_)
  refine yO rfl rfl rfl (by unfold I64;omega) (zB rfl (zA ?_))
  exact⟨kk - 1,by omega,i+1,by omega,rfl,.c4 rfl rfl rfl rfl (.nil rfl)⟩
 ·refine k_seq ?_
  refine kQ (zC rfl (zC rfl (o_gD rfl rfl rfl rfl rfl (zC rfl (o_gD rfl rfl rfl rfl rfl (zC rfl (o_gD rfl rfl rfl rfl rfl (yF rfl ty46 rfl (List.length_map _) ?_))))))))
  refine o_gD rfl rfl rfl rfl rfl (zf rfl rfl rfl (za rfl rfl rfl ?_))
  refine zA (k_cF rfl (decide_eq_false (by omega)) (yP (kQ (zC rfl (zB rfl (zA (zU ?_)))))))
  refine⟨.inr rfl,_,.cons _ _ _ _ (.tmp 4) .nil,?_⟩
  exact .refl _
  done
end Go.Proofs.YtfbmlibilcjlgaaDoor.drumBounds
