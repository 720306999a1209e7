import Derived.Test.YtfbmlibilcjlgaaDoorVamT20
set_option linter.unusedVariables false
set_option linter.unusedSimpArgs false
set_option linter.constructorNameAsVariable false
namespace Go.Proofs.YtfbmlibilcjlgaaDoor.drumBounds
open Vam
section
variable {is:FuncId→Bool}{orc:Known}
def bk0:Bk:=⟨0,0,[],0,0,0,0,0,0,0,[]⟩
theorem uw_bk0{n:Int}:UW (.u (.tup [.agg [.int .i64 0,.int .i64 0,.lst .full 0 [],.int .i64 0,.int .i64 0,.int .i64 0,.int .i64 0,.int .i64 0,.int .i64 0,.int .i64 0,.lst .full 0 []],.int .i64 n])) (.u (.tup [bk0.u,.int .i64 n])):=
 .tup _ _ (.lcons _ _ _ _ (.agg _ _ (.lcons _ _ _ _ (.refl _) (.lcons _ _ _ _ (.refl _) (.lcons _ _ _ _ (.nil .full .ro 1) (.lcons _ _ _ _ (.refl _) (.lcons _ _ _ _ (.refl _) (.lcons _ _ _ _ (.refl _) (.lcons _ _ _ _ (.refl _) (.lcons _ _ _ _ (.refl _) (.lcons _ _ _ _ (.refl _) (.lcons _ _ _ _ (.refl _) (.lcons _ _ _ _ (.nil .full .ro 3) (.lrefl _))))))))))))) (.lrefl _))
set_option maxHeartbeats 8000000 in
theorem wpc60j(hi:Off is){b:Bk}(hb:wl b=false){st:List SB}{g:Nat}{B:List U}:WpC Tryd.prog is orc 60 [b.u,.lst .ro 1 [.fn g [] B]] st fun u st'=>u=.tup [.agg [.int .i64 0,.int .i64 0,.lst .full 0 [],.int .i64 0,.int .i64 0,.int .i64 0,.int .i64 0,.int .i64 0,.int .i64 0,.int .i64 0,.lst .full 0 []],.int .i64 80]∧∃e,st'=st++e:=by
 refine zAW body60 pure60 rfl rfl ?_
 have q17:=ret17 (orc:=orc) hi b
 rw[if_neg (by rw[hb];simp)]at q17
 refine kQ (zc rfl rfl (zi rfl ze75 ?_))
 refine zB rfl (zA ?_)
 refine zH [(1,.lst .ro 1 [U.fn g [] B]),(2,U.box (List.length st) 0),(4,U.box (List.length (st++[SB.box (Bk.cs b)])) 0)] (st++[SB.box (Bk.cs b)]++[SB.box [.int .i64 0,.int .i64 0,.lst .full 0 [],.int .i64 0,.int .i64 0,.int .i64 0,.int .i64 0,.int .i64 0,.int .i64 0,.int .i64 0,.lst .full 0 []]]) (.cons rfl (.cons rfl (.cons rfl (.nil rfl)))) rfl fun fr=>?_
 refine k_seq (kQ (zJ rfl rfl (zo (zp _ _)) sh27 rfl ?_))
 refine zP rfl (q17) (.lrefl _) (zB rfl (zA (kQ (zC rfl (wC rfl rfl rfl (zA (k_cT rfl rfl ?_)))))))
 refine kQ (yp rfl ze75 pl75 rfl rfl ?_)
 refine zC rfl (zZ rfl (zp _ _) sh75 rfl rfl rfl rfl rfl ?_)
 refine zB rfl (zA (zU ?_))
 refine⟨.inr rfl,_,.cons _ _ _ _ (.cellN 4 75 (st++[SB.box (Bk.cs b)]).length 0 11 [.int .i64 0,.int .i64 0,.lst .full 0 [],.int .i64 0,.int .i64 0,.int .i64 0,.int .i64 0,.int .i64 0,.int .i64 0,.int .i64 0,.lst .full 0 []] rfl (by show(((st++[SB.box (Bk.cs b)])++[SB.box _]).set (st++[SB.box (Bk.cs b)]).length (SB.box _))[(st++[SB.box (Bk.cs b)]).length]? =_;rw[yx];exact zp _ _) sh75 rfl) (.cons _ _ _ _ (.tmp 5) .nil),_,.refl _,rfl,[SB.box (Bk.cs b),.box _],(by show((st++[SB.box (Bk.cs b)])++[SB.box _]).set (st++[SB.box (Bk.cs b)]).length (SB.box _)=_;rw[yx,List.append_assoc];rfl)⟩
set_option maxHeartbeats 8000000 in
theorem wpc60n(hi:Off is){b:Bk}(hb:BOk b){st:List SB}{g:Nat}{B:List U}(hg:∀X,WpC Tryd.prog is orc g ([b.u]++B) (st++X) fun u st'=>u=.bool false∧∃e,st'=(st++X)++e):WpC Tryd.prog is orc 60 [b.u,.lst .ro 1 [.fn g [] B]] st fun u st'=>u=.tup [.agg [.int .i64 0,.int .i64 0,.lst .full 0 [],.int .i64 0,.int .i64 0,.int .i64 0,.int .i64 0,.int .i64 0,.int .i64 0,.int .i64 0,.lst .full 0 []],.int .i64 81]∧∃e,st'=st++e:=by
 refine zAW body60 pure60 rfl rfl ?_
 have q17:=ret17 (orc:=orc) hi b
 rw[if_pos ((wZ b).2 hb)]at q17
 refine kQ (zc rfl rfl (zi rfl ze75 ?_))
 refine zB rfl (zA ?_)
 refine zH [(1,.lst .ro 1 [U.fn g [] B]),(2,U.box (List.length st) 0),(4,U.box (List.length (st++[SB.box (Bk.cs b)])) 0)] (st++[SB.box (Bk.cs b)]++[SB.box [.int .i64 0,.int .i64 0,.lst .full 0 [],.int .i64 0,.int .i64 0,.int .i64 0,.int .i64 0,.int .i64 0,.int .i64 0,.int .i64 0,.lst .full 0 []]]) (.cons rfl (.cons rfl (.cons rfl (.nil rfl)))) rfl fun fr=>?_
 refine k_seq (kQ (zJ rfl rfl (zo (zp _ _)) sh27 rfl ?_))
 refine zP rfl (q17) (.lrefl _) (zB rfl (zA (kQ (zC rfl (wC rfl rfl rfl (zA (k_cF rfl rfl ?_)))))))
 refine zQ (kQ (zJ rfl rfl (zo (zp _ _)) sh27 rfl ?_))
 refine yp rfl ze75 pl75 rfl rfl ?_
 refine zi rfl ze75 ?_
 refine zZ rfl (zp _ _) sh75 rfl rfl rfl rfl rfl ?_
 refine zA ?_
 refine zH [(1,.lst .ro 1 [U.fn g [] B]),(4,U.box (List.length (st++[SB.box (Bk.cs b)])) 0),(7,U.box (List.length (st++[SB.box (Bk.cs b)]++[SB.box [.int .i64 0,.int .i64 0,.lst .full 0 [],.int .i64 0,.int .i64 0,.int .i64 0,.int .i64 0,.int .i64 0,.int .i64 0,.int .i64 0,.lst .full 0 []]])) 0)] (st++[SB.box (Bk.cs b)]++[SB.box [.int .i64 0,.int .i64 0,.lst .full 0 [],.int .i64 0,.int .i64 0,.int .i64 0,.int .i64 0,.int .i64 0,.int .i64 0,.int .i64 0,.lst .full 0 []]]++[SB.box (Bk.cs b)]) (.cons rfl (.cons rfl (.cons rfl (.nil rfl)))) (yx _ _ _) fun fr=>?_
 refine k_seq (kQ (zC rfl (yF rfl zFM rfl rfl ?_)))
 refine zC rfl (zA (zL ?_))
 refine yh (fun kk s2=>∃X:List SB,s2.st=st++X∧X[1]? =some (.box [.int .i64 0,.int .i64 0,.lst .full 0 [],.int .i64 0,.int .i64 0,.int .i64 0,.int .i64 0,.int .i64 0,.int .i64 0,.int .i64 0,.lst .full 0 []])∧X[2]? =some (.box (Bk.cs b))∧(kk=1∧Holds s2 [(4,.box (st.length+1) 0),(7,.box (st.length+2) 0),(18,.lst .ro 1 [.fn g [] B]),(19,.int .i64 1),(20,.int .i64 0)])) (fun kk s2 hI=>?_) 1 _ ⟨[.box (Bk.cs b),.box [.int .i64 0,.int .i64 0,.lst .full 0 [],.int .i64 0,.int .i64 0,.int .i64 0,.int .i64 0,.int .i64 0,.int .i64 0,.int .i64 0,.lst .full 0 []],.box (Bk.cs b)],(by show((st++[SB.box _])++[SB.box _])++[SB.box _]=_;rw[List.append_assoc,List.append_assoc];rfl),rfl,rfl,⟨rfl,.cons (by show U.box (st++[SB.box _]).length 0=_;simp) (.cons (by show U.box ((st++[SB.box _])++[SB.box _]).length 0=_;simp) (.cons rfl (.cons rfl (.cons rfl (.nil rfl)))))⟩⟩
 obtain⟨X,hst2,x1,x2,hk,hs2⟩:=hI
 have y1:=zDa (st:=st) x1
 have y2:=zDa (st:=st) x2
 refine zH _ _ hs2 hst2 fun fr2=>?_
 refine kQ (zf rfl rfl rfl (zA (k_seq (k_cT rfl rfl ?_))))
 refine zQ (k_seq (zL (kQ (yD rfl zFM rfl rfl (by decide) rfl cl83 ?_))))
 refine zT rfl rfl sh83 rfl ?_
 refine zB rfl (zA (kQ (zC rfl (zJ rfl rfl y2 sh75 rfl ?_))))
 refine zEf rfl rfl (hg X) (.lrefl _) (fun u st1 hM=>?_)
 obtain⟨rfl,e,rfl⟩:=hM
 have y3:((st++X)++e)[st.length+1]? =some (SB.box [.int .i64 0,.int .i64 0,.lst .full 0 [],.int .i64 0,.int .i64 0,.int .i64 0,.int .i64 0,.int .i64 0,.int .i64 0,.int .i64 0,.lst .full 0 []]):=zo y1
 have hl:st.length+1<((st++X)++e).length:=(List.getElem?_eq_some_iff.1 y3).1
 refine yu rfl rfl (zA (k_cT rfl rfl ?_))
 refine kQ (yp rfl ze75 pl75 rfl rfl ?_)
 refine zZ rfl y3 sh75 rfl rfl rfl rfl rfl ?_
 refine zB rfl (zA (zU ?_))
 refine⟨.inr rfl,_,.cons _ _ _ _ (.cellN 4 75 (st.length+1) 0 11 [.int .i64 0,.int .i64 0,.lst .full 0 [],.int .i64 0,.int .i64 0,.int .i64 0,.int .i64 0,.int .i64 0,.int .i64 0,.int .i64 0,.lst .full 0 []] rfl (List.getElem?_set_self hl) sh75 rfl) (.cons _ _ _ _ (.tmp 5) .nil),_,.refl _,rfl,((X++e).set 1 (.box [.int .i64 0,.int .i64 0,.lst .full 0 [],.int .i64 0,.int .i64 0,.int .i64 0,.int .i64 0,.int .i64 0,.int .i64 0,.int .i64 0,.lst .full 0 []])),?_⟩
 show((st++X)++e).set (st.length+1) _=_
 rw[List.append_assoc];exact set_off
theorem wpc89n(hi:Off is){b:Bk}{l:List Int}(hb:BOk b)(h:zBi b l=false){st:List SB}{j:Nat}(hj:st[j]? =some (.box [.lst .ro 1 (zG l)])):WpC Tryd.prog is orc 89 [b.u,.box j 0] st fun u st'=>u=.bool false∧∃e,st'=st++e:=by
 refine zAW body89 pure89 rfl rfl ?_
 have q62:=ret62g (orc:=orc) hi hb l
 rw[h]at q62
 refine kQ (zc rfl rfl (zB rfl (zA ?_)))
 refine zH [(1,U.box j 0),(2,U.box (List.length st) 0)] (st++[SB.box (Bk.cs b)]) (.cons rfl (.cons rfl (.nil rfl))) rfl fun fr=>?_
 refine kQ (zJ rfl rfl (zp _ _) sh75 rfl ?_)
 refine zF rfl rfl (zo hj) sh22 rfl ?_
 refine zP rfl (q62) (.lrefl _) (zB rfl (zA (zU ?_)))
 refine⟨.inr rfl,_,.cons _ _ _ _ (.tmp 3) .nil,?_⟩
 exact⟨_,.refl _,rfl,_,rfl⟩
def errI(b:Bk)(L:List Int):Int:=if wl b=false then 80 else if zBi b L=false then 81 else 0
set_option maxHeartbeats 8000000 in
theorem ret54g(hi:Off is){b:Bk}{l:List Int}(h:errI b l≠0):RetP Tryd.prog is orc 54 [b.u,.lst .ro 1 (zG l)] (.tup [bk0.u,.int .i64 (errI b l)]):=by
 refine zk body54 pure54 (hi 54 (by decide)) rfl rfl (yM (yK b 4) (zr 6 .ro (fun h=>by cases h) 1 l)) (.inr ⟨_,rfl,yM (k:=7) (yK bk0 3) (.int _ _ _)⟩) ?_
 unfold errI at h ⊢
 by_cases hv:wl b=false
 ·rw[if_pos hv]
  refine kQ (zc rfl rfl (zc rfl rfl (zi rfl ze75 ?_)))
  refine zB rfl (zA ?_)
  refine zH [(2,U.box 0 0),(3,U.box 1 0),(4,U.box 2 0)] ([SB.box (Bk.cs b),SB.box [.lst .ro 1 (zG l)],SB.box [.int .i64 0,.int .i64 0,.lst .full 0 [],.int .i64 0,.int .i64 0,.int .i64 0,.int .i64 0,.int .i64 0,.int .i64 0,.int .i64 0,.lst .full 0 []]]) (.cons rfl (.cons rfl (.cons rfl (.nil rfl)))) rfl fun fr=>?_
  refine kQ (zJ rfl rfl rfl sh27 rfl ?_)
  refine zBw rfl ?_
  refine wb (es:=[U.fn 89 [] [U.box 1 0]]) rfl zFM ze83 cl83 rfl rfl rfl rfl rfl rfl rfl rfl ?_
  refine zBM rfl (wpc60j hi hv) (.lcons _ _ _ _ (.refl _) (.lcons _ _ _ _ (.ro _ _ _) (.lrefl _))) (fun u st1 hM=>?_)
  obtain⟨rfl,e,rfl⟩:=hM
  refine zX rfl rfl rfl (zX rfl rfl rfl (zZ rfl rfl sh75 rfl rfl rfl rfl rfl ?_))
  refine zB rfl (zA (zU ?_))
  refine⟨.inr rfl,_,.cons _ _ _ _ (.cellN 4 75 _ _ _ _ rfl rfl sh75 rfl) (.cons _ _ _ _ (.tmp 5) .nil),?_⟩
  exact uw_bk0
 ·rw[if_neg hv]at h ⊢
  have hb:=(wZ b).1 (by simpa using hv)
  by_cases hp:zBi b l=false
  ·rw[if_pos hp]
   refine kQ (zc rfl rfl (zc rfl rfl (zi rfl ze75 ?_)))
   refine zB rfl (zA ?_)
   refine zH [(2,U.box 0 0),(3,U.box 1 0),(4,U.box 2 0)] ([SB.box (Bk.cs b),SB.box [.lst .ro 1 (zG l)],SB.box [.int .i64 0,.int .i64 0,.lst .full 0 [],.int .i64 0,.int .i64 0,.int .i64 0,.int .i64 0,.int .i64 0,.int .i64 0,.int .i64 0,.lst .full 0 []]]) (.cons rfl (.cons rfl (.cons rfl (.nil rfl)))) rfl fun fr=>?_
   refine kQ (zJ rfl rfl rfl sh27 rfl ?_)
   refine zBw rfl ?_
   refine wb (es:=[U.fn 89 [] [U.box 1 0]]) rfl zFM ze83 cl83 rfl rfl rfl rfl rfl rfl rfl rfl ?_
   refine zBM rfl (wpc60n hi hb (fun X=>wpc89n hi hb hp (j:=1) (zo rfl))) (.lcons _ _ _ _ (.refl _) (.lcons _ _ _ _ (.ro _ _ _) (.lrefl _))) (fun u st1 hM=>?_)
   obtain⟨rfl,e,rfl⟩:=hM
   refine zX rfl rfl rfl (zX rfl rfl rfl (zZ rfl rfl sh75 rfl rfl rfl rfl rfl ?_))
   refine zB rfl (zA (zU ?_))
   refine⟨.inr rfl,_,.cons _ _ _ _ (.cellN 4 75 _ _ _ _ rfl rfl sh75 rfl) (.cons _ _ _ _ (.tmp 5) .nil),?_⟩
   exact uw_bk0
  ·rw[if_neg hp]at h;exact absurd rfl h
theorem zEM{b:Bk}{L:List Int}:errI b L=0↔BOk b∧POk b L:=by
 unfold errI
 by_cases hv:wl b=false
 ·rw[if_pos hv]
  refine⟨(fun h=>by cases h),fun h=>?_⟩
  rw[(wZ b).2 h.1]at hv;cases hv
 ·rw[if_neg hv]
  have hb:=(wZ b).1 (by simpa using hv)
  by_cases hp:zBi b L=false
  ·rw[if_pos hp]
   refine⟨(fun h=>by cases h),fun h=>?_⟩
   rw[(zFj hb).2 h.2]at hp;cases hp
  ·rw[if_neg hp]
   exact⟨fun _=>⟨hb,(zFj hb).1 (by simpa using hp)⟩,fun _=>rfl⟩
end
section
variable {is:FuncId→Bool}{orc:Known}
end
end Go.Proofs.YtfbmlibilcjlgaaDoor.drumBounds
