import Derived.Test.YthhbfbmfhldbaaaDoorVamT17
set_option linter.unusedVariables false
set_option linter.unusedSimpArgs false
set_option linter.constructorNameAsVariable false
namespace Go.Proofs.YthhbfbmfhldbaaaDoor.locks
open Vam
section
variable {is:FuncId→Bool}{orc:Known}{l:Ln}
noncomputable def b95:Code:=(Tryd.f95.body).getD .skip
theorem body95:bodyOf Tryd.prog 95=some (4,b95,[.tmp 2]):=by kernel_rfl
theorem pure95:pureFn Tryd.prog 95=false:=by kernel_rfl
theorem pl85:zFV Tryd.prog 85=some [(0,16),(16,16)]:=by kernel_rfl
theorem ze142:yM Tryd.prog 142=some ((.cons .nilf .nil):V):=by kernel_rfl
noncomputable def b110:Code:=(Tryd.f110.body).getD .skip
theorem body110:bodyOf Tryd.prog 110=some (11,b110,[]):=by kernel_rfl
theorem pure110:pureFn Tryd.prog 110=false:=by kernel_rfl
theorem wpc95(l:Ln)(st:List SB):WpC Tryd.prog is orc 95 [l.u] st fun u st'=>u=.fn 110 [] [.box st.length 0]∧st'=st++[.box l.cs]:=by
 refine wpc_of body95 pure95 rfl rfl ?_
 refine kQ (zk rfl rfl (zA rfl (zB ?_)))
 refine zH [(1,U.box (List.length st) 0)] (st++[SB.box [.lst .ro 1 (zE (Ln.slots l)),.int .i64 (Ln.left l),.int .i64 (Ln.right l),.int .i64 (Ln.run l)]]) (.n1 rfl) rfl fun fr=>?_
 refine kQ ?_
 refine o_func rfl ?_
 refine zA rfl (zB (zV ?_))
 refine⟨.inr rfl,_,.cons _ _ _ _ (.tmp 2) .nil,?_⟩
 exact⟨_,.refl _,rfl,rfl⟩
def splL(l:Ln):List (List Int):=spl l l.slots.length []
set_option maxHeartbeats 8000000 in
theorem gen110(h:VL l)(ci:Nat):GenF spE 110 [.box ci 0] [(ci,.box l.cs)] (splL l):=by
 intro is orc hi N A lp I D hc hcap Z0 hI0
 have hX:=hc.len [] Z0 hI0
 have h0:Z0[ci]? =some (.box l.cs):=hcap _ List.mem_cons_self [] Z0 hI0
 have q92:=ret92 (orc:=orc) hi l
 refine wpc_cut body110 pure110 rfl rfl ?_
 have h01:∀E,(Z0++E)[ci]? =some (.box l.cs):=fun E=>zAF h0
 have h02:=h01 [.box [.yld A]]
 refine kQ (zk rfl rfl (zB ?_))
 refine zH [(1,U.box ci 0),(2,U.box (List.length Z0) 0)] (Z0++[SB.box [U.yld A]]) (.n2 rfl) rfl fun fr=>?_
 refine kQ (zDx rfl rfl h02 sh73 rfl ?_)
 refine zN rfl (q92) (.lrefl _) (yL rfl ze118 ?_)
 refine yY rfl (wI _ _) sh118 rfl rfl rfl rfl rfl ?_
 refine zB ?_
 refine zH [(1,U.box ci 0),(2,U.box (List.length Z0) 0),(3,U.box (List.length (Z0++[SB.box [U.yld A]])) 0)] (Z0++[SB.box [U.yld A]]++[SB.box [U.fn 108 [Ln.u l] [],U.fn 109 [Ln.u l] []]]) (.n3 rfl) (zAJ _ _ _) fun fr=>?_
 refine kQ (yL rfl ze142 ?_)
 refine zB ?_
 refine zH [(1,U.box ci 0),(2,U.box (List.length Z0) 0),(3,U.box (List.length (Z0++[SB.box [U.yld A]])) 0),(4,U.box (List.length (Z0++[SB.box [U.yld A]]++[SB.box [U.fn 108 [Ln.u l] [],U.fn 109 [Ln.u l] []]])) 0)] (Z0++[SB.box [U.yld A]]++[SB.box [U.fn 108 [Ln.u l] [],U.fn 109 [Ln.u l] []]]++[SB.box [U.nilf]]) (.n4 rfl) rfl fun fr=>?_
 have hl1:(Z0++[SB.box [U.yld A]]).length=N+1:=by simp[hX]
 have hl2:(Z0++[SB.box [U.yld A]]++[SB.box [U.fn 108 [l.u] [],U.fn 109 [l.u] []]]).length=N+2:=by simp[hX]
 refine zH [(1,.box ci 0),(2,.box N 0),(3,.box (N+1) 0),(4,.box (N+2) 0)] ((Z0++[.box [.yld A],.box [.fn 108 [l.u] [],.fn 109 [l.u] []]])++[.box [.nilf]]) (.cons rfl (.cons (by show U.box Z0.length 0=_;rw[hX]) (.cons (by show U.box (Z0++[SB.box [U.yld A]]).length 0=_;rw[hl1]) (.cons (by show U.box (Z0++[SB.box [U.yld A]]++[SB.box [U.fn 108 [l.u] [],U.fn 109 [l.u] []]]).length 0=_;rw[hl2]) (.nil rfl))))) (by
  show Z0++[SB.box [U.yld A]]++[SB.box [U.fn 108 [l.u] [],U.fn 109 [l.u] []]]++[SB.box [U.nilf]]=_
  simp) fun fr=>?_
 have hl3:(Z0++[SB.box [U.yld A],SB.box [U.fn 108 [l.u] [],U.fn 109 [l.u] []]]).length=N+2:=by simp[hX]
 have z4:((Z0++[SB.box [U.yld A],SB.box [U.fn 108 [l.u] [],U.fn 109 [l.u] []]])++[SB.box [U.nilf]])[N+2]? =some (.box [.nilf]):=by rw[←hl3];exact wI _ _
 refine kQ ?_
 refine o_func rfl ?_
 refine wO rfl z4 sh142 rfl rfl ?_
 refine zB ?_
 refine zH [(4,U.box (N+2) 0)] (List.set (Z0++[SB.box [U.yld A],SB.box [U.fn 108 [Ln.u l] [],U.fn 109 [Ln.u l] []]]++[SB.box [U.nilf]]) (N+2) (SB.box [U.fn 111 [] [U.box ci 0,U.box N 0,U.box (N+2) 0,U.box (N+1) 0]])) (.n1 rfl) rfl fun fr=>?_
 have hst:((Z0++[SB.box [U.yld A],SB.box [U.fn 108 [l.u] [],U.fn 109 [l.u] []]])++[SB.box [U.nilf]]).set (N+2) (.box [.fn 111 [] [.box ci 0,.box N 0,.box (N+2) 0,.box (N+1) 0]])=Z0++R3 l A N ci:=by
  rw[←hl3,zAJ]
  simp[hl3]
 refine zH [(4,.box (N+2) 0)] (Z0++R3 l A N ci) (.n1 rfl) hst fun fr=>?_
 have z5:(Z0++R3 l A N ci)[N+2]? =some (.box [.fn 111 [] [.box ci 0,.box N 0,.box (N+2) 0,.box (N+1) 0]]):=at_len hX rfl
 have q111:=wpc111 (orc:=orc) hi h hc (bi:=ci) (fun m Z hI=>hcap _ List.mem_cons_self m Z hI) l.slots.length [] [] Z0 (R3 l A N ci) (by simp) hI0 ⟨[],by rw[List.append_nil];rfl⟩ (fun i x h=>h)
 refine k_region (zx rfl rfl z5 sh142 rfl ?_)
 refine we rfl ze85 pl85 rfl rfl ?_
 refine o_callV rfl rfl q111 (.lrefl _) (fun u st1 hM=>?_)
 obtain⟨Z',e',rfl,⟨rfl,hI2⟩|⟨rfl,a,r,hr,hD2⟩⟩:=hM
 ·have hX2:=hc.len _ _ hI2
  refine zB ?_
  refine⟨.inl rfl,_,.nil,_,.refl _,Bd.tup (fun c hc=>by cases hc),?_,?_,.inl ?_⟩
  ·show Z0.length≤(Z'++_).length
   rw[List.length_append,hX,hX2];omega
  ·show ∀x∈(Z'++_).take Z0.length,BdS Z0.length x
   rw[hX,zAz hX2];exact hc.bd _ _ hI2
  ·show I (splL l) ((Z'++_).take Z0.length)
   rw[hX,zAz hX2];exact hI2
 ·have hX2:=hc.lenD _ _ hD2
  refine zB ?_
  refine⟨.inl rfl,_,.nil,_,.refl _,Bd.tup (fun c hc=>by cases hc),?_,?_,.inr ⟨a,r,hr,?_⟩⟩
  ·show Z0.length≤(Z'++_).length
   rw[List.length_append,hX,hX2];omega
  ·show ∀x∈(Z'++_).take Z0.length,BdS Z0.length x
   rw[hX,zAz hX2];exact hc.bdD _ _ hD2
  ·show D a ((Z'++_).take Z0.length)
   rw[hX,zAz hX2];exact hD2
end
section
variable {is:FuncId→Bool}{orc:Known}{l:Ln}
noncomputable def b102:Code:=(Tryd.f102.body).getD .skip
theorem body102:bodyOf Tryd.prog 102=some (15,b102,[.tmp 2]):=by kernel_rfl
theorem pure102:pureFn Tryd.prog 102=true:=by kernel_rfl
noncomputable def b112:Code:=(Tryd.f112.body).getD .skip
theorem body112:bodyOf Tryd.prog 112=some (19,b112,[.tmp 2]):=by kernel_rfl
theorem pure112:pureFn Tryd.prog 112=true:=by kernel_rfl
noncomputable def b97:Code:=(Tryd.f97.body).getD .skip
theorem body97:bodyOf Tryd.prog 97=some (10,b97,[.tmp 4]):=by kernel_rfl
theorem pure97:pureFn Tryd.prog 97=true:=by kernel_rfl
set_option maxHeartbeats 8000000 in
theorem ret102(hi:Off is)(f:Nat→Bool):RetP Tryd.prog is orc 102 [.agg (zK (b16 f))] (.int .i64 ((memP f 16).length:Int)):=by
 refine zw body102 pure102 (hi 102 (by decide)) rfl rfl (wA (yy _ 6)) (.inl (.int _ _ _)) ?_
 refine kQ (zk rfl rfl (zA rfl (zB ?_)))
 refine zH [(1,U.box 0 0)] ([SB.box [U.bool (f (nat_lit 0)),U.bool (f (nat_lit 1)),U.bool (f (nat_lit 2)),U.bool (f (nat_lit 3)),U.bool (f (nat_lit 4)),U.bool (f (nat_lit 5)),U.bool (f (nat_lit 6)),U.bool (f (nat_lit 7)),U.bool (f (nat_lit 8)),U.bool (f (nat_lit 9)),U.bool (f (nat_lit 10)),U.bool (f (nat_lit 11)),U.bool (f (nat_lit 12)),U.bool (f (nat_lit 13)),U.bool (f (nat_lit 14)),U.bool (f (nat_lit 15))]]) (.n1 rfl) rfl fun fr=>?_
 refine kQ (zA rfl (zB (k_seq (kQ (kB sh83 rfl (zC rfl (zB (zI ?_))))))))
 refine yX (fun kk s2=>∃i:Nat,kk+i=16∧s2.st=[.box (zK (b16 f))]∧Holds s2 [(3,.int .i64 ((memP f i).length:Int)),(6,.agg (zK (b16 f))),(7,.int .i64 i)]) (fun kk s2 hI=>?_) 16 _ ⟨0,rfl,rfl,.cons rfl (.n2 rfl)⟩
 obtain⟨i,hk,hst2,hs2⟩:=hI
 have hsu:=congrArg List.length (zBc f i)
 rw[List.length_append]at hsu
 have hlen:=zBF f i
 have hat:i<16→(zK (b16 f))[i]? =some (.bool (f i)):=fun h=>zBw (zCb h)
 obtain⟨S,hS⟩:∃S,S=zK (b16 f):=⟨_,rfl⟩
 rw[←hS]at hst2 hs2 hat
 by_cases hin:i<16
 ·have hb:S[(i:Int).toNat*1]? =some (.bool (f i)):=by rw[show(i:Int).toNat*1=i by omega];exact hat hin
  rw[hS]at hst2
  have hS2:=hS
  refine zH _ _ hs2 hst2 fun fr2=>?_
  generalize (memP f i).length=C at*
  cases c:f i with
  |true=>
   rw[c,if_pos rfl]at hsu
   rw[c]at hb
   refine kQ (kp rfl (zB (k_seq (k_cT rfl (kF (by omega)) (zL (k_seq (zI (kQ (wX rfl ty83 rfl rfl (Int.natCast_nonneg _) (by omega) cl4 sh4 hb ?_)))))))))
   refine zA rfl (zB (kQ (zC rfl (zB (k_cT rfl rfl ?_)))))
   refine k_region (zC rfl ?_)
   refine kz rfl (by unfold I64;omega) (zA rfl (zB (k_region ?_)))
   refine kz rfl (by unfold I64;omega) (zC rfl (zB ?_))
   exact⟨kk - 1,by omega,i+1,by omega,rfl,.cons (by rw[hsu];rfl) (.cons (by rw[←hS];rfl) (.n1 rfl))⟩
  |false=>
   rw[c,if_neg (by decide)]at hsu
   rw[c]at hb
   refine kQ (kp rfl (zB (k_seq (k_cT rfl (kF (by omega)) (zL (k_seq (zI (kQ (wX rfl ty83 rfl rfl (Int.natCast_nonneg _) (by omega) cl4 sh4 hb ?_)))))))))
   refine zA rfl (zB (kQ (zC rfl (zB (k_cF rfl rfl ?_)))))
   refine zL (k_region ?_)
   refine kz rfl (by unfold I64;omega) (zC rfl (zB ?_))
   exact⟨kk - 1,by omega,i+1,by omega,rfl,.cons (by rw[hsu];rfl) (.cons (by rw[←hS];rfl) (.n1 rfl))⟩
 ·have hie:i=16:=by omega
  subst hie
  refine zH _ _ hs2 hst2 fun fr2=>?_
  refine kQ (kp rfl (zB (k_seq (k_cF rfl rfl ?_))))
  refine zj (kQ (zC rfl (zA rfl (zB (zV ?_)))))
  refine⟨.inr rfl,_,.cons _ _ _ _ (.tmp 2) .nil,?_⟩
  exact .refl _
def dffI(f g:Nat→Bool):Int:=max (((memP f 16).length:Int) - (memP g 16).length) (((memP g 16).length:Int) - (memP f 16).length)
set_option maxHeartbeats 8000000 in
theorem ret112(hi:Off is)(f g:Nat→Bool):RetP Tryd.prog is orc 112 [spU f g] (.int .i64 (dffI f g)):=by
 refine zw body112 pure112 (hi 112 (by decide)) rfl rfl (wA (yy _ 6)) (.inl (.int _ _ _)) ?_
 have q1:=ret102 (orc:=orc) hi f
 have q2:=ret102 (orc:=orc) hi g
 have hl1:=zBF f 16
 have hl2:=zBF g 16
 unfold dffI
 generalize (memP f 16).length=a at*
 generalize (memP g 16).length=b at*
 have q107:=ret107 (orc:=orc) hi ((a:Int) - b) ((b:Int) - a)
 unfold spU
 have hs0:=zl f
 have hs1:=zl g
 generalize b16 f=S at*
 generalize b16 g=T at*
 obtain⟨a0,a1,a2,a3,a4,a5,a6,a7,a8,a9,a10,a11,a12,a13,a14,a15,rfl⟩:=zDb hs0
 obtain⟨b0,b1,b2,b3,b4,b5,b6,b7,b8,b9,b10,b11,b12,b13,b14,b15,rfl⟩:=zDb hs1
 refine kQ (zk rfl rfl (zA rfl (zB ?_)))
 refine zH [(1,U.box 0 0)] ([SB.box [U.bool a0,U.bool a1,U.bool a2,U.bool a3,U.bool a4,U.bool a5,U.bool a6,U.bool a7,U.bool a8,U.bool a9,U.bool a10,U.bool a11,U.bool a12,U.bool a13,U.bool a14,U.bool a15,U.bool b0,U.bool b1,U.bool b2,U.bool b3,U.bool b4,U.bool b5,U.bool b6,U.bool b7,U.bool b8,U.bool b9,U.bool b10,U.bool b11,U.bool b12,U.bool b13,U.bool b14,U.bool b15]]) (.n1 rfl) rfl fun fr=>?_
 refine k_seq (yf [.plain,.read true,.read false,.plain,.read true,.plain,.plain,.plain] (by kernel_rfl) (by kernel_rfl) (by kernel_rfl) ?_)
 refine zD (yW rfl ty85 rfl rfl (by omega) (by omega) cl83 (zB rfl)) ?_
 refine zf rfl (kB sh83 rfl (zB rfl)) ?_
 refine zCY rfl (q1) (.int _ _) (.lrefl _) ?_
 refine zD (yW rfl ty85 rfl rfl (by omega) (by omega) cl83 (zB rfl)) ?_
 refine zf rfl (kB sh83 rfl (zB rfl)) ?_
 refine zD (zN rfl (q2) (.lrefl _) (zB rfl)) ?_
 refine zD (zA rfl (zB rfl)) ?_
 refine zD (zA rfl (zB rfl)) ?_
 refine wm ?_
 refine kQ (zC rfl (zC rfl ?_))
 refine o_sub rfl rfl rfl (by unfold I64;omega) (zC rfl (zC rfl ?_))
 refine o_sub rfl rfl rfl (by unfold I64;omega) (zBn (es:=[.int .i64 (↑b - ↑a)]) rfl ty22 ze3 cl3 rfl rfl rfl rfl rfl rfl rfl rfl ?_)
 refine zN rfl (q107) (.lcons _ _ _ _ (.refl _) (.lcons _ _ _ _ (.ro _ _ _) (.lrefl _))) ?_
 refine zA rfl (zB (zV ?_))
 refine⟨.inr rfl,_,.cons _ _ _ _ (.tmp 2) .nil,?_⟩
 exact .refl _
theorem dff_df{p:List Int}(hp:p.length≤16):dffI (plF p 0) (plF p 1)=dfI p:=by
 unfold dffI dfI
 rw[prt16 hp (by decide),prt16 hp (by decide)]
set_option maxHeartbeats 8000000 in
theorem ret97(hi:Off is)(f g f2 g2:Nat→Bool):RetP Tryd.prog is orc 97 [spU f g,spU f2 g2] (.bool (decide (dffI f g<dffI f2 g2))):=by
 refine zw body97 pure97 (hi 97 (by decide)) rfl rfl (yq (yy _ 6) (yy _ 6)) (.inl (.bool _ _)) ?_
 have q1:=ret112 (orc:=orc) hi f g
 have q2:=ret112 (orc:=orc) hi f2 g2
 generalize dffI f g=a at*
 generalize dffI f2 g2=b at*
 unfold spU at*
 have hs0:(b16 f++b16 g).length=32:=by rw[List.length_append,zl,zl]
 have hs1:(b16 f2++b16 g2).length=32:=by rw[List.length_append,zl,zl]
 generalize b16 f++b16 g=S at*
 generalize b16 f2++b16 g2=T at*
 have hl0:(zK S).length=32:=by unfold zK;rw[List.length_map];exact hs0
 have hl1:(zK T).length=32:=by unfold zK;rw[List.length_map];exact hs1
 have hb0:=zBU S
 have hb1:=zBU T
 refine kQ (zk rfl rfl (zk rfl rfl (zA rfl (zB ?_))))
 refine zH [(2,U.box 0 0),(3,U.box 1 0)] ([SB.box (List.map dg (zZ (zP (St.init [U.agg (zK S),U.agg (zK T)]) (Go.Operand.tmp 0)))),SB.box (List.map dg (zZ (zP (St.put (St.newB (St.init [U.agg (zK S),U.agg (zK T)]) (List.map dg (zZ (zP (St.init [U.agg (zK S),U.agg (zK T)]) (Go.Operand.tmp 0))))) 2 (U.box (List.length (St.st (St.init [U.agg (zK S),U.agg (zK T)]))) 0)) (Go.Operand.tmp 1))))]) (.n2 rfl) rfl fun fr=>?_
 refine zH [(2,.box 0 0),(3,.box 1 0)] [.box (zK S),.box (zK T)] (.n2 rfl) (by show [SB.box (List.map dg (zK S)),SB.box (List.map dg (zK T))]=_;rw[hb0,hb1]) fun fr=>?_
 refine k_seq (yf [.read true,.read false,.read true,.plain,.plain,.plain] (by kernel_rfl) (by kernel_rfl) (by kernel_rfl) ?_)
 refine zf rfl (yn rfl rfl rfl sh85 hl0 (zB rfl)) ?_
 refine zCY rfl (q1) (.int _ _) (.lrefl _) ?_
 refine zf rfl (yn rfl rfl rfl sh85 hl1 (zB rfl)) ?_
 refine zD (zN rfl (q2) (.lrefl _) (zB rfl)) ?_
 refine zD (kp rfl (zB rfl)) ?_
 refine zD (zA rfl (zB rfl)) ?_
 refine wm ?_
 refine zV ?_
 refine⟨.inr rfl,_,.cons _ _ _ _ (.tmp 4) .nil,?_⟩
 exact .refl _
end
section
variable {is:FuncId→Bool}{orc:Known}{l:Ln}
theorem fld129_0:zp Tryd.prog 129 0=some (0,126):=by kernel_rfl
theorem zDg:zp Tryd.prog 129 1=some (1,85):=by kernel_rfl
theorem zCq:zp Tryd.prog 129 2=some (33,4):=by kernel_rfl
theorem sh126:shOf Tryd.prog 126=.one:=by kernel_rfl
noncomputable def b98:Code:=(Tryd.f98.body).getD .skip
theorem body98:bodyOf Tryd.prog 98=some (28,b98,[]):=by kernel_rfl
theorem pure98:pureFn Tryd.prog 98=false:=by kernel_rfl
def chC(o:Option (List Int)):List U:=[.fn 97 [] []]++(zK (spB (o.getD []))++[.bool o.isSome])
theorem chC_len(o:Option (List Int)):(chC o).length=34:=by
 unfold chC
 rw[List.length_append,List.length_append,wd];rfl
theorem chC_any(o:Option (List Int)):(chC o)[33]? =some (.bool o.isSome):=by
 unfold chC
 rw[List.getElem?_append_right (by decide),List.getElem?_append_right (by rw[wd];decide),wd];rfl
theorem chC_fn(o:Option (List Int)):(chC o)[0]? =some (.fn 97 [] []):=rfl
theorem chC_set(o:Option (List Int))(p:List Int):([U.fn 97 [] []]++(zK (spB p)++[U.bool o.isSome])).set 33 (.bool true)=chC (some p):=by
 unfold chC
 rw[List.set_append_right _ _ (by decide),List.set_append_right _ _ (by rw[wd];decide),wd];rfl
theorem set_same{l:List SB}{i:Nat}{x:SB}(h:l[i]? =some x):l.set i x=l:=by
 obtain⟨h1,h2⟩:=List.getElem?_eq_some_iff.1 h
 rw[←h2];exact List.set_getElem_self h1
set_option maxHeartbeats 16000000 in
theorem wpc98(hi:Off is){o:Option (List Int)}{p:List Int}(ho:∀q,o=some q→q.length≤16)(hp:p.length≤16){ci:Nat}{st:List SB}(hb:st[ci]? =some (.box (chC o))):
  WpC Tryd.prog is orc 98 [.box ci 0,spE p] st fun _ st'=>∃e,st'=(st.set ci (.box (chC (zBd o p))))++e:=by
 have hl:=wd p
 have hBd:=zBU (spB p)
 have hone:=zCv (spB p)
 have hci:=(List.getElem?_eq_some_iff.1 hb).1
 have k0:([.box ci 0,spE p]:List U)=[.box ci 0,.agg (zK (spB p))]:=rfl
 rw[k0]
 have hset:=chC_set o p
 have hany:=chC_any o
 have hkl:=chC_len o
 have hfn:=chC_fn o
 obtain⟨B,hB⟩:∃B,B=zK (spB p):=⟨_,rfl⟩
 obtain⟨K,hK⟩:∃K,K=chC o:=⟨_,rfl⟩
 rw[←hB]at hl hBd hone hset ⊢
 rw[←hK]at hb hany hkl hfn
 have hb2:(st++[SB.box B])[ci]? =some (.box K):=zAF hb
 refine wpc_of body98 pure98 rfl rfl ?_
 refine kQ (zk rfl rfl (zB ?_))
 refine zH [(0,U.box ci 0),(3,U.box (List.length st) 0)] (st++[SB.box (List.map dg (zZ (zP (initF (List.map dg [U.box ci 0,U.agg B]) st) (Go.Operand.tmp 1))))]) (.n2 rfl) rfl fun fr=>?_
 refine zH [(0,.box ci 0),(3,.box st.length 0)] (st++[.box B]) (.n2 rfl) (by show st++[SB.box (List.map dg B)]=_;rw[hBd]) fun fr=>?_
 cases o with
 |none=>
  refine k_seq (yf [.plain,.plain,.plain,.plain,.plain,.plain,.plain,.plain,.plain,.read true,.read true,.plain,.plain,.plain,.read true,.plain,.plain] (by kernel_rfl) (by kernel_rfl) (by kernel_rfl) ?_)
  refine zD (zC rfl (zB rfl)) (zD (yw rfl rfl (zB rfl)) ?_)
  refine zD (kw rfl zCq (zB rfl)) ?_
  refine zD (zx rfl rfl hb2 sh4 hany (zB rfl)) ?_
  refine zD (yc rfl rfl (zB rfl)) ?_
  refine zD (zC rfl (zB rfl)) (kj rfl (kj rfl (kj rfl ?_)))
  refine zn [(0,U.box ci 0),(3,U.box (List.length st) 0),(9,U.bool !Option.isSome Option.none)] [] (st++[SB.box B]) (.n3 rfl) rfl rfl fun fr=>?_
  refine kj rfl (kj rfl (kj rfl (kj rfl (kj rfl (kj rfl (kj rfl (zD (kE rfl (zB rfl)) ?_)))))))
  refine wm ?_
  refine zH [(0,U.box ci 0),(3,U.box (List.length st) 0),(20,.bool true)] (st++[SB.box B]) (.n3 rfl) rfl fun fr=>?_
  refine k_cT rfl rfl ?_
  have hbq:(st++[SB.box B])[ci]? =some (.box ([.fn 97 [] []]++(zK (spB [])++[.bool false]))):=by rw[hb2,hK];rfl
  have hlq:=wd []
  obtain⟨C,hC⟩:∃C,C=zK (spB []):=⟨_,rfl⟩
  rw[←hC]at hlq hbq
  have hset:([U.fn 97 [] []]++(B++[U.bool false])).set 33 (.bool true)=chC (some p):=hset
  have hws:Nat.blt 33 (U.fn 97 [] []::List.append [] (B++[U.bool false])).length=true:=by rw[Nat.blt_eq];show 33<(B++[U.bool false]).length+1;simp[hl]
  refine k_region (zC rfl (zC rfl (yn rfl rfl (wI _ _) sh85 hl ?_)))
  refine yw rfl rfl ?_
  refine kw rfl zDg (o_storeP rfl hbq sh85 rfl rfl hl rfl hlq hone hBd rfl ?_)
  refine yw rfl rfl ?_
  refine kw rfl zCq (wO rfl (at_eq hbq) sh4 hws rfl ?_)
  refine zB ?_
  refine⟨.inl rfl,_,.nil,_,.refl _,[.box B],?_⟩
  show((st++[SB.box B]).set ci (.box _)).set ci (.box (([U.fn 97 [] []]++(B++[U.bool false])).set 33 (.bool true)))=_
  rw[List.set_set,show zBd none p=some p from rfl,hset,List.set_append_left _ _ hci]
 |some q=>
  have q97:=ret97 (orc:=orc) hi (plF p 0) (plF p 1) (plF q 0) (plF q 1)
  rw[dff_df hp,dff_df (ho q rfl)]at q97
  have hlq:=wd q
  have q97:RetP Tryd.prog is orc 97 [.agg B,.agg (zK (spB q))] (.bool (decide (dfI p<dfI q))):=by rw[hB];exact q97
  have hbq:(st++[SB.box B])[ci]? =some (.box ([.fn 97 [] []]++(zK (spB q)++[.bool true]))):=by rw[hb2,hK];rfl
  have fB:FlatU (.agg B):=by rw[hB];exact zDh _
  have fq:FlatU (.agg (zK (spB q))):=zDh _
  obtain⟨C,hC⟩:∃C,C=zK (spB q):=⟨_,rfl⟩
  rw[←hC]at q97 hlq hbq fq
  by_cases hdd:dfI p<dfI q
  rotate_left
  ·refine k_seq ?_
   refine yf [.plain,.plain,.plain,.plain,.plain,.plain,.plain,.plain,.plain,.read true,.read true,.plain,.plain,.plain,.read true,.plain,.plain] (by kernel_rfl) (by kernel_rfl) (by kernel_rfl) ?_
   refine zD (zC rfl (zB rfl)) (zD (yw rfl rfl (zB rfl)) ?_)
   refine zD (kw rfl zCq (zB rfl)) ?_
   refine zD (zx rfl rfl hb2 sh4 hany (zB rfl)) ?_
   refine zD (yc rfl rfl (zB rfl)) ?_
   refine zD (zC rfl (zB rfl)) (kl rfl (zD (zC rfl (zB rfl)) (kl rfl (zD (yw rfl rfl (zB rfl)) ?_))))
   refine kl rfl (zD (kw rfl fld129_0 (zB rfl)) ?_)
   refine zn [(0,U.box ci 0),(3,U.box (List.length st) 0),(9,U.bool !Option.isSome (Option.some q)),(12,U.box ci 0)] [] (st++[SB.box B]) (.n4 rfl) rfl rfl fun fr=>?_
   refine kl rfl (zf rfl (zx rfl rfl hb2 sh126 hfn (zB rfl)) ?_)
   refine kl rfl (zf rfl (yn rfl rfl (wI _ _) sh85 hl (zB rfl)) ?_)
   refine kl rfl (zD (zC rfl (zB rfl)) (kl rfl (zD (yw rfl rfl (zB rfl)) ?_)))
   refine kl rfl (zD (kw rfl zDg (zB rfl)) ?_)
   refine kl rfl (zf rfl (o_loadP rfl rfl hbq sh85 rfl hlq (zB rfl)) ?_)
   refine kl rfl (zD (wb rfl rfl q97 (.lrefl _) (zB rfl)) ?_)
   refine zD (kD rfl (zB rfl)) ?_
   refine wm ?_
   refine zH [(0,U.box ci 0),(3,U.box (List.length st) 0),(20,U.bool (decide (dfI p<dfI q)))] (st++[SB.box B]) (.n3 rfl) rfl fun fr=>?_
   refine k_cF rfl (kG (by omega)) (zL ?_)
   refine⟨.inl rfl,_,.nil,_,.refl _,[.box B],?_⟩
   show st++[SB.box B]=_
   rw[show zBd (some q) p=some q from if_neg hdd,←hK,hK,←hK,set_same hb]
  refine k_seq (yf [.plain,.plain,.plain,.plain,.plain,.plain,.plain,.plain,.plain,.read true,.read true,.plain,.plain,.plain,.read true,.plain,.plain] (by kernel_rfl) (by kernel_rfl) (by kernel_rfl) ?_)
  refine zD (zC rfl (zB rfl)) (zD (yw rfl rfl (zB rfl)) ?_)
  refine zD (kw rfl zCq (zB rfl)) ?_
  refine zD (zx rfl rfl hb2 sh4 hany (zB rfl)) ?_
  refine zD (yc rfl rfl (zB rfl)) ?_
  refine zD (zC rfl (zB rfl)) (kl rfl (zD (zC rfl (zB rfl)) (kl rfl (zD (yw rfl rfl (zB rfl)) ?_))))
  refine kl rfl (zD (kw rfl fld129_0 (zB rfl)) ?_)
  refine zn [(0,U.box ci 0),(3,U.box (List.length st) 0),(9,U.bool !Option.isSome (Option.some q)),(12,U.box ci 0)] [] (st++[SB.box B]) (.n4 rfl) rfl rfl fun fr=>?_
  refine kl rfl (zf rfl (zx rfl rfl hb2 sh126 hfn (zB rfl)) ?_)
  refine kl rfl (zf rfl (yn rfl rfl (wI _ _) sh85 hl (zB rfl)) ?_)
  refine kl rfl (zD (zC rfl (zB rfl)) (kl rfl (zD (yw rfl rfl (zB rfl)) ?_)))
  refine kl rfl (zD (kw rfl zDg (zB rfl)) ?_)
  refine kl rfl (zf rfl (o_loadP rfl rfl hbq sh85 rfl hlq (zB rfl)) ?_)
  refine kl rfl (zD (wb rfl rfl q97 (.lrefl _) (zB rfl)) ?_)
  refine zD (kD rfl (zB rfl)) ?_
  refine wm ?_
  refine zH [(0,U.box ci 0),(3,U.box (List.length st) 0),(20,U.bool (decide (dfI p<dfI q)))] (st++[SB.box B]) (.n3 rfl) rfl fun fr=>?_
  refine k_cT rfl (kF (by omega)) ?_
  have hset:([U.fn 97 [] []]++(B++[U.bool true])).set 33 (.bool true)=chC (some p):=hset
  have hws:Nat.blt 33 (U.fn 97 [] []::List.append [] (B++[U.bool true])).length=true:=by rw[Nat.blt_eq];show 33<(B++[U.bool true]).length+1;simp[hl]
  refine k_region (zC rfl (zC rfl (yn rfl rfl (wI _ _) sh85 hl ?_)))
  refine yw rfl rfl ?_
  refine kw rfl zDg (o_storeP rfl hbq sh85 rfl rfl hl rfl hlq hone hBd rfl ?_)
  refine yw rfl rfl ?_
  refine kw rfl zCq (wO rfl (at_eq hbq) sh4 hws rfl ?_)
  refine zB ?_
  refine⟨.inl rfl,_,.nil,_,.refl _,[.box B],?_⟩
  show((st++[SB.box B]).set ci (.box _)).set ci (.box (([U.fn 97 [] []]++(B++[U.bool true])).set 33 (.bool true)))=_
  rw[List.set_set,show zBd (some q) p=some p from if_pos hdd,hset,List.set_append_left _ _ hci]
end
end Go.Proofs.YthhbfbmfhldbaaaDoor.locks
