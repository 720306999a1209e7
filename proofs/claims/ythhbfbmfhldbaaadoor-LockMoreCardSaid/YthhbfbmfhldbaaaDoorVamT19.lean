import Derived.Test.YthhbfbmfhldbaaaDoorVamT18
set_option linter.unusedVariables false
set_option linter.unusedSimpArgs false
set_option linter.constructorNameAsVariable false
namespace Go.Proofs.YthhbfbmfhldbaaaDoor.locks
open Vam
section
variable {is:FuncId→Bool}{orc:Known}{l:Ln}
noncomputable def b95:Code:=(Tryd.f95.body).getD .skip
theorem body95:bodyOf Tryd.prog 95=some (4,b95,[.tmp 2]):=by kernel_rfl
theorem pure95:pureFn Tryd.prog 95=false:=by kernel_rfl
theorem pl85:zFz Tryd.prog 85=some [(0,16),(16,16)]:=by kernel_rfl
theorem ze142:yK Tryd.prog 142=some ((.cons .nilf .nil):V):=by kernel_rfl
noncomputable def b110:Code:=(Tryd.f110.body).getD .skip
theorem body110:bodyOf Tryd.prog 110=some (11,b110,[]):=by kernel_rfl
theorem pure110:pureFn Tryd.prog 110=false:=by kernel_rfl
theorem wpc95(l:Ln)(st:List SB):WpC Tryd.prog is orc 95 [l.u] st fun u st'=>u=.fn 110 [] [.box st.length 0]∧st'=st++[.box l.cs]:=by
 refine zEH body95 pure95 rfl rfl ?_
 refine kQ (zx rfl rfl (zB rfl (zC ?_)))
 refine zI [(1,U.box (List.length st) 0)] (st++[SB.box [.lst .ro 1 (zD (Ln.slots l)),.int .i64 (Ln.left l),.int .i64 (Ln.right l),.int .i64 (Ln.run l)]]) (.n1 rfl) rfl fun fr=>?_
 refine kQ ?_
 refine zBs rfl ?_
 refine zB rfl (zC (zg ?_))
 refine⟨.inr rfl,_,.cons _ _ _ _ (.tmp 2) .nil,?_⟩
 exact⟨_,.refl _,rfl,rfl⟩
def splL(l:Ln):List (List Int):=spl l l.slots.length []
set_option maxHeartbeats 8000000 in
theorem gen110(h:VL l)(ci:Nat):GenF spE 110 [.box ci 0] [(ci,.box l.cs)] (splL l):=by
 intro is orc hi N A lp I D hc hcap Z0 hI0
 have hX:=hc.len [] Z0 hI0
 have h0:Z0[ci]? =some (.box l.cs):=hcap _ List.mem_cons_self [] Z0 hI0
 have q92:=ret92 (orc:=orc) hi l
 refine wpc_cut body110 pure110 rfl rfl ?_
 have h01:∀E,(Z0++E)[ci]? =some (.box l.cs):=fun E=>yp h0
 have h02:=h01 [.box [.yld A]]
 refine kQ (zx rfl rfl (zC ?_))
 refine zI [(1,U.box ci 0),(2,U.box (List.length Z0) 0)] (Z0++[SB.box [U.yld A]]) (.n2 rfl) rfl fun fr=>?_
 refine kQ (zBG rfl rfl h02 sh73 rfl ?_)
 refine zO rfl (q92) (.lrefl _) (zo rfl ze118 ?_)
 refine wJ rfl (ya _ _) sh118 rfl rfl rfl rfl rfl ?_
 refine zC ?_
 refine zI [(1,U.box ci 0),(2,U.box (List.length Z0) 0),(3,U.box (List.length (Z0++[SB.box [U.yld A]])) 0)] (Z0++[SB.box [U.yld A]]++[SB.box [U.fn 108 [Ln.u l] [],U.fn 109 [Ln.u l] []]]) (.n3 rfl) (wX _ _ _) fun fr=>?_
 refine kQ (zo rfl ze142 ?_)
 refine zC ?_
 refine zI [(1,U.box ci 0),(2,U.box (List.length Z0) 0),(3,U.box (List.length (Z0++[SB.box [U.yld A]])) 0),(4,U.box (List.length (Z0++[SB.box [U.yld A]]++[SB.box [U.fn 108 [Ln.u l] [],U.fn 109 [Ln.u l] []]])) 0)] (Z0++[SB.box [U.yld A]]++[SB.box [U.fn 108 [Ln.u l] [],U.fn 109 [Ln.u l] []]]++[SB.box [U.nilf]]) (.n4 rfl) rfl fun fr=>?_
 have hl1:(Z0++[SB.box [U.yld A]]).length=N+1:=by simp[hX]
 have hl2:(Z0++[SB.box [U.yld A]]++[SB.box [U.fn 108 [l.u] [],U.fn 109 [l.u] []]]).length=N+2:=by simp[hX]
 refine zI [(1,.box ci 0),(2,.box N 0),(3,.box (N+1) 0),(4,.box (N+2) 0)] ((Z0++[.box [.yld A],.box [.fn 108 [l.u] [],.fn 109 [l.u] []]])++[.box [.nilf]]) (.cons rfl (.cons (by show U.box Z0.length 0=_;rw[hX]) (.cons (by show U.box (Z0++[SB.box [U.yld A]]).length 0=_;rw[hl1]) (.cons (by show U.box (Z0++[SB.box [U.yld A]]++[SB.box [U.fn 108 [l.u] [],U.fn 109 [l.u] []]]).length 0=_;rw[hl2]) (.nil rfl))))) (by
  show Z0++[SB.box [U.yld A]]++[SB.box [U.fn 108 [l.u] [],U.fn 109 [l.u] []]]++[SB.box [U.nilf]]=_
  simp) fun fr=>?_
 have hl3:(Z0++[SB.box [U.yld A],SB.box [U.fn 108 [l.u] [],U.fn 109 [l.u] []]]).length=N+2:=by simp[hX]
 have z4:((Z0++[SB.box [U.yld A],SB.box [U.fn 108 [l.u] [],U.fn 109 [l.u] []]])++[SB.box [U.nilf]])[N+2]? =some (.box [.nilf]):=by rw[←hl3];exact ya _ _
 refine kQ ?_
 refine zBs rfl ?_
 refine yd rfl z4 sh142 rfl rfl ?_
 refine zC ?_
 refine zI [(4,U.box (N+2) 0)] (List.set (Z0++[SB.box [U.yld A],SB.box [U.fn 108 [Ln.u l] [],U.fn 109 [Ln.u l] []]]++[SB.box [U.nilf]]) (N+2) (SB.box [U.fn 111 [] [U.box ci 0,U.box N 0,U.box (N+2) 0,U.box (N+1) 0]])) (.n1 rfl) rfl fun fr=>?_
 have hst:((Z0++[SB.box [U.yld A],SB.box [U.fn 108 [l.u] [],U.fn 109 [l.u] []]])++[SB.box [U.nilf]]).set (N+2) (.box [.fn 111 [] [.box ci 0,.box N 0,.box (N+2) 0,.box (N+1) 0]])=Z0++R3 l A N ci:=by
  rw[←hl3,wX]
  simp[hl3]
 refine zI [(4,.box (N+2) 0)] (Z0++R3 l A N ci) (.n1 rfl) hst fun fr=>?_
 have z5:(Z0++R3 l A N ci)[N+2]? =some (.box [.fn 111 [] [.box ci 0,.box N 0,.box (N+2) 0,.box (N+1) 0]]):=zEV hX rfl
 have q111:=wpc111 (orc:=orc) hi h hc (bi:=ci) (fun m Z hI=>hcap _ List.mem_cons_self m Z hI) l.slots.length [] [] Z0 (R3 l A N ci) (by simp) hI0 ⟨[],by rw[List.append_nil];rfl⟩ (fun i x h=>h)
 refine k_region (zf rfl rfl z5 sh142 rfl ?_)
 refine zBI rfl ze85 pl85 rfl rfl ?_
 refine o_callV rfl rfl q111 (.lrefl _) (fun u st1 hM=>?_)
 obtain⟨Z',e',rfl,⟨rfl,hI2⟩|⟨rfl,a,r,hr,hD2⟩⟩:=hM
 ·have hX2:=hc.len _ _ hI2
  refine zC ?_
  refine⟨.inl rfl,_,.nil,_,.refl _,Bd.tup (fun c hc=>by cases hc),?_,?_,.inl ?_⟩
  ·show Z0.length≤(Z'++_).length
   rw[List.length_append,hX,hX2];omega
  ·show ∀x∈(Z'++_).take Z0.length,BdS Z0.length x
   rw[hX,wU hX2];exact hc.bd _ _ hI2
  ·show I (splL l) ((Z'++_).take Z0.length)
   rw[hX,wU hX2];exact hI2
 ·have hX2:=hc.lenD _ _ hD2
  refine zC ?_
  refine⟨.inl rfl,_,.nil,_,.refl _,Bd.tup (fun c hc=>by cases hc),?_,?_,.inr ⟨a,r,hr,?_⟩⟩
  ·show Z0.length≤(Z'++_).length
   rw[List.length_append,hX,hX2];omega
  ·show ∀x∈(Z'++_).take Z0.length,BdS Z0.length x
   rw[hX,wU hX2];exact hc.bdD _ _ hD2
  ·show D a ((Z'++_).take Z0.length)
   rw[hX,wU hX2];exact hD2
end
section
variable {is:FuncId→Bool}{orc:Known}{l:Ln}
noncomputable def b102:Code:=(Tryd.f102.body).getD .skip
theorem body102:bodyOf Tryd.prog 102=some (15,b102,[.tmp 2]):=by kernel_rfl
theorem pure102:pureFn Tryd.prog 102=true:=by kernel_rfl
set_option maxHeartbeats 8000000 in
theorem ret102(hi:Off is)(f:Nat→Bool):RetP Tryd.prog is orc 102 [.agg (zL (b16 f))] (.int .i64 ((memP f 16).length:Int)):=by
 refine yi body102 pure102 (hi 102 (by decide)) rfl rfl (zAV (wp _ 6)) (.inl (.int _ _ _)) ?_
 refine kQ (zx rfl rfl (zB rfl (zC ?_)))
 refine zI [(1,U.box 0 0)] ([SB.box [U.bool (f (nat_lit 0)),U.bool (f (nat_lit 1)),U.bool (f (nat_lit 2)),U.bool (f (nat_lit 3)),U.bool (f (nat_lit 4)),U.bool (f (nat_lit 5)),U.bool (f (nat_lit 6)),U.bool (f (nat_lit 7)),U.bool (f (nat_lit 8)),U.bool (f (nat_lit 9)),U.bool (f (nat_lit 10)),U.bool (f (nat_lit 11)),U.bool (f (nat_lit 12)),U.bool (f (nat_lit 13)),U.bool (f (nat_lit 14)),U.bool (f (nat_lit 15))]]) (.n1 rfl) rfl fun fr=>?_
 refine kQ (zB rfl (zC (k_seq (kQ (kB sh83 rfl (zA rfl (zC (zM ?_))))))))
 refine wC (fun kk s2=>∃i:Nat,kk+i=16∧s2.st=[.box (zL (b16 f))]∧Holds s2 [(3,.int .i64 ((memP f i).length:Int)),(6,.agg (zL (b16 f))),(7,.int .i64 i)]) (fun kk s2 hI=>?_) 16 _ ⟨0,rfl,rfl,.cons rfl (.n2 rfl)⟩
 obtain⟨i,hk,hst2,hs2⟩:=hI
 have hsu:=congrArg List.length (zCO f i)
 rw[List.length_append]at hsu
 have hlen:=zAe f i
 have hat:i<16→(zL (b16 f))[i]? =some (.bool (f i)):=fun h=>zDF (zDe h)
 obtain⟨S,hS⟩:∃S,S=zL (b16 f):=⟨_,rfl⟩
 rw[←hS]at hst2 hs2 hat
 by_cases hin:i<16
 ·have hb:S[(i:Int).toNat*1]? =some (.bool (f i)):=by rw[show(i:Int).toNat*1=i by omega];exact hat hin
  rw[hS]at hst2
  have hS2:=hS
  refine zI _ _ hs2 hst2 fun fr2=>?_
  generalize (memP f i).length=C at*
  cases c:f i with
  |true=>
   rw[c,if_pos rfl]at hsu
   rw[c]at hb
   refine kQ (kp rfl (zC (k_seq (k_cT rfl (kF (by omega)) (zQ (k_seq (zM (kQ (wt rfl ty83 rfl rfl (Int.natCast_nonneg _) (by omega) cl4 sh4 hb ?_)))))))))
   refine zB rfl (zC (kQ (zA rfl (zC (k_cT rfl rfl ?_)))))
   refine k_region (zA rfl ?_)
   refine kz rfl (by unfold I64;omega) (zB rfl (zC (k_region ?_)))
   refine kz rfl (by unfold I64;omega) (zA rfl (zC ?_))
   exact⟨kk - 1,by omega,i+1,by omega,rfl,.cons (by rw[hsu];rfl) (.cons (by rw[←hS];rfl) (.n1 rfl))⟩
  |false=>
   rw[c,if_neg (by decide)]at hsu
   rw[c]at hb
   refine kQ (kp rfl (zC (k_seq (k_cT rfl (kF (by omega)) (zQ (k_seq (zM (kQ (wt rfl ty83 rfl rfl (Int.natCast_nonneg _) (by omega) cl4 sh4 hb ?_)))))))))
   refine zB rfl (zC (kQ (zA rfl (zC (k_cF rfl rfl ?_)))))
   refine zQ (k_region ?_)
   refine kz rfl (by unfold I64;omega) (zA rfl (zC ?_))
   exact⟨kk - 1,by omega,i+1,by omega,rfl,.cons (by rw[hsu];rfl) (.cons (by rw[←hS];rfl) (.n1 rfl))⟩
 ·have hie:i=16:=by omega
  subst hie
  refine zI _ _ hs2 hst2 fun fr2=>?_
  refine kQ (kp rfl (zC (k_seq (k_cF rfl rfl ?_))))
  refine yW (kQ (zA rfl (zB rfl (zC (zg ?_)))))
  refine⟨.inr rfl,_,.cons _ _ _ _ (.tmp 2) .nil,?_⟩
  exact .refl _
end
section
variable {is:FuncId→Bool}{orc:Known}{l:Ln}
end
end Go.Proofs.YthhbfbmfhldbaaaDoor.locks
