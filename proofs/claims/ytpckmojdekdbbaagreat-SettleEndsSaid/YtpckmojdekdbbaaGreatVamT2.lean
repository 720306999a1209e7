import Derived.Test.YtpckmojdekdbbaaGreatVamT1
set_option linter.unusedVariables false
set_option linter.unusedSimpArgs false
set_option linter.constructorNameAsVariable false
namespace Go.Proofs.YtpckmojdekdbbaaGreat.settles
open Vam
variable {is:FuncId→Bool}{orc:Known}{z:Zt}
theorem growE{x:List SB}{e Y l:List SB}(hY:x++e=Y):∃e',Y++l=x++e':=⟨e++l,by rw[←hY,List.append_assoc]⟩
theorem growS{x:List SB}{e Y:List SB}{a b:SB}(hY:x++e=Y):∃e',(Y++[a]).set Y.length b=x++e':=⟨e++[b],by rw[yK,←hY,List.append_assoc]⟩
theorem at_ps{l:List SB}{i:Nat}{x a b:SB}(h:l[i]? =some x):((l++[a]).set l.length b)[i]? =some x:=by rw[yK];exact zn h
structure Bq where
 a:Int
 b:Int
 lo:Int
 up:Int
abbrev Bq.u(q:Bq):U:=.agg [.int .i64 q.a,.int .i64 q.b,.int .i64 q.lo,.int .i64 q.up]
abbrev bdsU(l:List Bq):List U:=l.map Bq.u
def Bq.ok(q:Bq):Bool:=zFA q.lo q.up q.a q.b
theorem zFK{α:Type}(f:α→U){k:Nat}(l:List α)(z:Nat)(h:∀a,∀c∈zx (f a),Dat k c):Dat (k+1) (.lst .ro z (l.map f)):=by
 refine .lst _ .ro _ _ (fun h=>by cases h) fun c hc=>?_
 obtain⟨e,he,hc⟩:=List.mem_flatMap.1 hc
 obtain⟨x,_,rfl⟩:=List.mem_map.1 he
 exact h x c hc
theorem dat_bds(l:List Bq)(k:Nat):Dat (k+2) (.lst .ro 4 (bdsU l)):=zFK Bq.u l 4 fun _=>zHC (.int _ _ _) (.int _ _ _) (.int _ _ _) (.int _ _ _)
abbrev Ky.cs(x:Ky):List U:=[.int .i64 x.bg.1,.int .i64 x.bg.2,.int .i64 x.rt.1,.int .i64 x.rt.2,.bool x.fx,.int .i64 x.dn,.int .i64 x.up]
abbrev Ky.u(x:Ky):U:=.agg x.cs
abbrev Fl.u(x:Fl):U:=.agg [.int .i64 x.yr,.int .i64 x.ky,.int .i64 x.bs.1,.int .i64 x.bs.2]
abbrev Lk.u(x:Lk):U:=.agg [.int .i64 x.yr,.int .i64 x.ky,.int .i64 x.rd,.int .i64 x.er]
abbrev kysU(l:List Ky):List U:=l.map Ky.u
abbrev spsU(l:List Sp):List U:=l.map spU
abbrev flsU(l:List Fl):List U:=l.map Fl.u
abbrev lksU(l:List Lk):List U:=l.map Lk.u
abbrev Zt.cs(z:Zt):List U:=[.int .i64 z.yrs,.lst .ro 7 (kysU z.keys),.lst .ro 2 (spsU z.steps),.lst .ro 4 (flsU z.files),.lst .ro 4 (lksU z.looks)]
abbrev Zt.u(z:Zt):U:=.agg z.cs
theorem dat_l5{k:Nat}{a b c d e:U}(h:Dat k a)(h2:Dat k b)(h3:Dat k c)(h4:Dat k d)(h5:Dat k e):∀v∈[a,b,c,d,e],Dat k v:=fun v hv=>by
 simp only[List.mem_cons,List.not_mem_nil,or_false]at hv
 rcases hv with rfl|rfl|rfl|rfl|rfl<;>assumption
theorem dat_l7{k:Nat}{a b c d e f g:U}(h:Dat k a)(h2:Dat k b)(h3:Dat k c)(h4:Dat k d)(h5:Dat k e)(h6:Dat k f)(h7:Dat k g):∀v∈[a,b,c,d,e,f,g],Dat k v:=fun v hv=>by
 simp only[List.mem_cons,List.not_mem_nil,or_false]at hv
 rcases hv with rfl|rfl|rfl|rfl|rfl|rfl|rfl<;>assumption
theorem zEB(l:List Ky)(k:Nat):Dat (k+2) (.lst .ro 7 (kysU l)):=zFK Ky.u l 7 fun _=>dat_l7 (.int _ _ _) (.int _ _ _) (.int _ _ _) (.int _ _ _) (.bool _ _) (.int _ _ _) (.int _ _ _)
theorem zBD(l:List Sp)(k:Nat):Dat (k+2) (.lst .ro 2 (spsU l)):=zFK spU l 2 fun _=>wQ (.int _ _ _) (.int _ _ _)
theorem zEC(l:List Fl)(k:Nat):Dat (k+2) (.lst .ro 4 (flsU l)):=zFK Fl.u l 4 fun _=>zHC (.int _ _ _) (.int _ _ _) (.int _ _ _) (.int _ _ _)
theorem zEA(l:List Lk)(k:Nat):Dat (k+2) (.lst .ro 4 (lksU l)):=zFK Lk.u l 4 fun _=>zHC (.int _ _ _) (.int _ _ _) (.int _ _ _) (.int _ _ _)
theorem dat_zcs(z:Zt)(k:Nat):∀c∈z.cs,Dat (k+2) c:=dat_l5 (.int _ _ _) (zEB _ k) (zBD _ k) (zEC _ k) (zEA _ k)
theorem zFh(z:Zt)(k:Nat):Dat (k+3) z.u:=.agg _ _ (dat_zcs z k)
theorem zHR:Program.cellsOf Tryz.prog 126=4:=by kernel_rfl
theorem sh126:shOf Tryz.prog 126=.many 4:=by kernel_rfl
theorem zFa:tyOf Tryz.prog 127=.slice 126:=by kernel_rfl
theorem wW:yf Tryz.prog 126=some ((.cons (.int .i64 0) (.cons (.int .i64 0) (.cons (.int .i64 0) (.cons (.int .i64 0) .nil)))):V):=by kernel_rfl
noncomputable def b82:Code:=(Tryz.f82.body).getD .skip
theorem body82:bodyOf Tryz.prog 82=some (15,b82,[.tmp 2]):=by kernel_rfl
theorem pure82:pureFn Tryz.prog 82=true:=by kernel_rfl
theorem by126:Program.bytesOf Tryz.prog 126=32:=by kernel_rfl
theorem cl35:Program.cellsOf Tryz.prog 35=2:=by kernel_rfl
theorem cl62:Program.cellsOf Tryz.prog 62=7:=by kernel_rfl
theorem yT:zc Tryz.prog 27 1=some (1,22):=by kernel_rfl
theorem zDE:zc Tryz.prog 27 2=some (2,23):=by kernel_rfl
theorem fld62_0:zc Tryz.prog 62 0=some (0,35):=by kernel_rfl
theorem fld62_1:zc Tryz.prog 62 1=some (2,35):=by kernel_rfl
theorem fld62_3:zc Tryz.prog 62 3=some (5,3):=by kernel_rfl
theorem fld62_4:zc Tryz.prog 62 4=some (6,3):=by kernel_rfl
theorem zAh:zHN Tryz.prog 126=some [(0,2),(2,1),(3,1)]:=by kernel_rfl
theorem sh22:shOf Tryz.prog 22=.one:=by kernel_rfl
theorem sh23:shOf Tryz.prog 23=.one:=by kernel_rfl
theorem sh62:shOf Tryz.prog 62=.many 7:=by kernel_rfl
theorem ty22:tyOf Tryz.prog 22=.slice 62:=by kernel_rfl
theorem ty23:tyOf Tryz.prog 23=.slice 35:=by kernel_rfl
theorem ze62:yf Tryz.prog 62=some ((.cons (.int .i64 0) (.cons (.int .i64 0) (.cons (.int .i64 0) (.cons (.int .i64 0) (.cons (.bool false) (.cons (.int .i64 0) (.cons (.int .i64 0) .nil))))))):V):=by kernel_rfl
theorem zEk:AppT Tryz.prog 127 127 126 4 32 ((.cons (.int .i64 0) (.cons (.int .i64 0) (.cons (.int .i64 0) (.cons (.int .i64 0) .nil)))):V):=⟨zFa,⟨_,zFa⟩,zHR,by decide,by126,wW,rfl⟩
noncomputable def b83:Code:=(Tryz.f83.body).getD .skip
theorem body83:bodyOf Tryz.prog 83=some (47,b83,[.tmp 2]):=by kernel_rfl
theorem pure83:pureFn Tryz.prog 83=true:=by kernel_rfl
theorem cl64:Program.cellsOf Tryz.prog 64=4:=by kernel_rfl
theorem cl68:Program.cellsOf Tryz.prog 68=4:=by kernel_rfl
theorem wA:zc Tryz.prog 27 0=some (0,3):=by kernel_rfl
theorem wo:zc Tryz.prog 27 3=some (3,24):=by kernel_rfl
theorem zCW:zc Tryz.prog 27 4=some (4,25):=by kernel_rfl
theorem zGw:zc Tryz.prog 64 0=some (0,3):=by kernel_rfl
theorem zFC:zc Tryz.prog 64 1=some (1,3):=by kernel_rfl
theorem zGv:zc Tryz.prog 64 2=some (2,35):=by kernel_rfl
theorem fld68_0:zc Tryz.prog 68 0=some (0,3):=by kernel_rfl
theorem fld68_1:zc Tryz.prog 68 1=some (1,3):=by kernel_rfl
theorem fld68_2:zc Tryz.prog 68 2=some (2,3):=by kernel_rfl
theorem fld68_3:zc Tryz.prog 68 3=some (3,3):=by kernel_rfl
theorem sh24:shOf Tryz.prog 24=.one:=by kernel_rfl
theorem sh25:shOf Tryz.prog 25=.one:=by kernel_rfl
theorem sh64:shOf Tryz.prog 64=.many 4:=by kernel_rfl
theorem sh68:shOf Tryz.prog 68=.many 4:=by kernel_rfl
theorem ty24:tyOf Tryz.prog 24=.slice 64:=by kernel_rfl
theorem ty25:tyOf Tryz.prog 25=.slice 68:=by kernel_rfl
theorem ze64:yf Tryz.prog 64=some ((.cons (.int .i64 0) (.cons (.int .i64 0) (.cons (.int .i64 0) (.cons (.int .i64 0) .nil)))):V):=by kernel_rfl
theorem ze68:yf Tryz.prog 68=some ((.cons (.int .i64 0) (.cons (.int .i64 0) (.cons (.int .i64 0) (.cons (.int .i64 0) .nil)))):V):=by kernel_rfl
noncomputable def b84:Code:=(Tryz.f84.body).getD .skip
theorem body84:bodyOf Tryz.prog 84=some (71,b84,[.tmp 2]):=by kernel_rfl
theorem pure84:pureFn Tryz.prog 84=true:=by kernel_rfl
theorem sh27:shOf Tryz.prog 27=.many 5:=by kernel_rfl
noncomputable def b54:Code:=(Tryz.f54.body).getD .skip
theorem body54:bodyOf Tryz.prog 54=some (49,b54,[.tmp 2]):=by kernel_rfl
theorem pure54:pureFn Tryz.prog 54=true:=by kernel_rfl
noncomputable def b17:Code:=(Tryz.f17.body).getD .skip
theorem body17:bodyOf Tryz.prog 17=some (6,b17,[.tmp 2]):=by kernel_rfl
theorem pure17:pureFn Tryz.prog 17=true:=by kernel_rfl
set_option maxHeartbeats 8000000 in
theorem ret82(hi:Off is)(l:List Bq)(hl:l.length≤4096):RetP Tryz.prog is orc 82 [.lst .ro 4 (bdsU l)] (.bool (l.all Bq.ok)):=by
 refine yp body82 pure82 (hi 82 (by decide)) rfl rfl (zCl (dat_bds l 6)) (.inl (.bool _ _)) ?_
 generalize hw:l.all Bq.ok=w
 refine kQ (zE rfl (zA (k_seq (kQ (zD rfl (zz rfl zFa rfl (List.length_map _) ?_))))))
 refine zD rfl (zA (zR ?_))
 refine yq (fun k st=>∃n:Nat,k+n=l.length∧(l.drop n).all Bq.ok=w∧Holds st [(5,.lst .ro 4 (bdsU l)),(6,.int .i64 l.length),(7,.int .i64 n)]) (fun k st hI=>?_) l.length _ ⟨0,rfl,hw,.cons rfl (.n2 rfl)⟩
 obtain⟨n,hk,hd,hs⟩:=hI
 by_cases hn:n<l.length
 ·obtain⟨x,hx⟩:∃x,l[n]? =some x:=⟨l[n],List.getElem?_eq_getElem hn⟩
  rw[drop_at hx,List.all_cons]at hd
  have q:=ret106 (orc:=orc) hi x.a x.b x.lo x.up
  obtain⟨Y,hY⟩:∃Y,st.st=Y:=⟨_,rfl⟩
  refine zL _ _ hs hY fun fr=>?_
  cases hx2:x.ok with
  |false=>
   rw[show zFA x.lo x.up x.a x.b=false from hx2]at q
   rw[hx2]at hd
   obtain rfl:w=false:=hd.symm
   refine kQ (kp rfl (zA (k_seq (k_cT rfl (kF (by omega)) (zV (k_seq (zR (kQ (wb (u:=(x).u) rfl zFa rfl rfl (Int.natCast_nonneg _) (by simp[hx]) zHR ?_)))))))))
   refine yL rfl rfl sh126 rfl ?_
   refine zi rfl wW ?_
   refine zS rfl (zT _ _) sh126 rfl rfl rfl rfl rfl ?_
   refine zA ?_
   refine zL [(4,U.box (List.length Y) 0),(5,.lst .ro 4 (bdsU l)),(6,.int .i64 ↑(List.length l)),(7,.int .i64 ↑n)] (Y++[SB.box [.int .i64 (Bq.a x),.int .i64 (Bq.b x),.int .i64 (Bq.lo x),.int .i64 (Bq.up x)]]) (.n4 rfl) (yK _ _ _) fun fr=>?_
   refine kQ (zg rfl rfl (zT _ _) sh126 rfl ?_)
   refine zY rfl (q) (.lrefl _) (zCp rfl rfl (zA (k_cT rfl rfl ?_)))
   refine kQ (zE rfl (zA (zw ?_)))
   refine⟨.inr rfl,_,.cons _ _ _ _ (.tmp 2) .nil,?_⟩
   exact .refl _
  |true=>
   rw[show zFA x.lo x.up x.a x.b=true from hx2]at q
   rw[hx2,Bool.true_and]at hd
   refine kQ (kp rfl (zA (k_seq (k_cT rfl (kF (by omega)) (zV (k_seq (zR (kQ (wb (u:=(x).u) rfl zFa rfl rfl (Int.natCast_nonneg _) (by simp[hx]) zHR ?_)))))))))
   refine yL rfl rfl sh126 rfl ?_
   refine zi rfl wW ?_
   refine zS rfl (zT _ _) sh126 rfl rfl rfl rfl rfl ?_
   refine zA ?_
   refine zL [(4,U.box (List.length Y) 0),(5,.lst .ro 4 (bdsU l)),(6,.int .i64 ↑(List.length l)),(7,.int .i64 ↑n)] (Y++[SB.box [.int .i64 (Bq.a x),.int .i64 (Bq.b x),.int .i64 (Bq.lo x),.int .i64 (Bq.up x)]]) (.n4 rfl) (yK _ _ _) fun fr=>?_
   refine kQ (zg rfl rfl (zT _ _) sh126 rfl ?_)
   refine zY rfl (q) (.lrefl _) (zCp rfl rfl (zA (k_cF rfl rfl ?_)))
   refine zV (k_region ?_)
   refine kz rfl (by unfold I64;omega) (zD rfl (zA ?_))
   exact⟨k - 1,by omega,n+1,by omega,hd,.cons rfl (.n2 rfl)⟩
 ·rw[List.drop_eq_nil_of_le (by omega)]at hd
  obtain rfl:w=true:=hd.symm
  obtain⟨Y,hY⟩:∃Y,st.st=Y:=⟨_,rfl⟩
  refine zL _ _ hs hY fun fr=>?_
  refine kQ (kp rfl (zA (k_seq (k_cF rfl (kG (by omega)) (yj (kQ (zE rfl (zA (zw ?_)))))))))
  refine⟨.inr rfl,_,.cons _ _ _ _ (.tmp 2) .nil,?_⟩
  exact .refl _
def Ky.qs(x:Ky):List Bq:=[⟨x.bg.1,x.bg.2,5000,20000⟩,⟨x.rt.1,x.rt.2, -50,50⟩,⟨x.dn,x.dn,0,1000⟩,⟨x.up,x.up,0,1000⟩]
def stQ(x:Sp):List Bq:=[⟨x.1,x.2,0,30000⟩]
def Fl.qs(z:Zt)(x:Fl):List Bq:=[⟨x.yr,x.yr,0,z.yrs - 1⟩,⟨x.ky,x.ky,0,(z.keys.length:Int) - 1⟩,⟨x.bs.1,x.bs.2, -200,200⟩]
def Lk.qs(z:Zt)(x:Lk):List Bq:=[⟨x.yr,x.yr,0,z.yrs⟩,⟨x.ky,x.ky,0,(z.keys.length:Int) - 1⟩,⟨x.rd,x.rd,0,30000⟩,⟨x.er,x.er,0,500⟩]
noncomputable def numQ(z:Zt):List Bq:=[⟨z.yrs,z.yrs,1,40⟩,⟨z.keys.length,z.keys.length,1,7⟩,⟨z.steps.length,z.steps.length,wR .i64 ((z.keys.length:Int) - 1),wR .i64 ((z.keys.length:Int) - 1)⟩,⟨z.files.length,z.files.length,0,6⟩,⟨z.looks.length,z.looks.length,0,12⟩]
theorem zEd{α:Type}(f:α→List Bq){l:List α}{n:Nat}{x:α}(h:l[n]? =some x)(p:List Bq):bdsU (p++(l.take (n+1)).flatMap f)=bdsU (p++(l.take n).flatMap f)++bdsU (f x):=by
 unfold bdsU
 rw[List.take_add_one,h,List.flatMap_append,←List.append_assoc,List.map_append]
 simp
theorem zDF{α:Type}(f:α→List Bq)(m:Nat)(hf:∀a,(f a).length=m)(l:List α):(l.flatMap f).length=m*l.length:=by
 induction l with
 |nil=>rfl
 |cons x l ih=>rw[List.flatMap_cons,List.length_append,ih,hf,List.length_cons,Nat.mul_add,Nat.mul_one,Nat.add_comm]
def keyQ(z:Zt):List Bq:=z.keys.flatMap Ky.qs++z.steps.flatMap stQ
def chgQ(z:Zt):List Bq:=z.files.flatMap (Fl.qs z)++z.looks.flatMap (Lk.qs z)
set_option maxHeartbeats 8000000 in
theorem ret83(hi:Off is)(z:Zt)(h1:z.keys.length≤7)(h2:z.steps.length≤6):RetP Tryz.prog is orc 83 [z.u] (.lst .ro 4 (bdsU (keyQ z))):=by
 refine yp body83 pure83 (hi 83 (by decide)) rfl rfl (zCl (zFh z 5)) (.inl (dat_bds _ 6)) ?_
 have n1:∀n,((z.keys.take n).flatMap Ky.qs).length≤28:=fun n=>by
  rw[zDF Ky.qs 4 (fun _=>rfl),List.length_take];omega
 have n2:∀n,((z.steps.take n).flatMap stQ).length≤6:=fun n=>by
  rw[zDF stQ 1 (fun _=>rfl),List.length_take];omega
 refine kQ (ya rfl rfl ?_)
 refine zAP 4 rfl (fun _=>rfl) ?_
 refine zA ?_
 refine zL [(1,U.box 0 0)] ([SB.box [.int .i64 (Zt.yrs z),.lst .ro 7 (kysU (Zt.keys z)),.lst .ro 2 (spsU (Zt.steps z)),.lst .ro 4 (flsU (Zt.files z)),.lst .ro 4 (lksU (Zt.looks z))]]) (.n1 rfl) rfl fun fr=>?_
 refine kQ ?_
 refine zAP 4 rfl (fun _=>rfl) ?_
 refine zA (k_seq (kQ (kw rfl yT (kA sh22 rfl (zz rfl ty22 rfl (List.length_map _) ?_)))))
 refine zD rfl (zA (zR ?_))
 refine yq (fun k st=>∃n:Nat,k+n=z.keys.length∧(∃e,st.st=[SB.box z.cs]++e)∧Holds st [(1,.box 0 0),(3,.lst .own 4 (bdsU ([]++(z.keys.take n).flatMap Ky.qs))),(9,.lst .ro 7 (kysU z.keys)),(10,.int .i64 z.keys.length),(11,.int .i64 n)]) (fun k st hI=>?_) z.keys.length _ ⟨0,rfl,⟨[],rfl⟩,.c4 rfl rfl rfl rfl (.n1 rfl)⟩
 obtain⟨n,hk,⟨e,hst⟩,hs⟩:=hI
 generalize hY:[SB.box z.cs]++e=Y at hst
 have hY0:Y[0]? =some (.box z.cs):=by rw[←hY];rfl
 by_cases hn:n<z.keys.length
 ·obtain⟨x,hx⟩:∃x,z.keys[n]? =some x:=⟨z.keys[n],List.getElem?_eq_getElem hn⟩
  have hL:(bdsU ([]++(z.keys.take n).flatMap Ky.qs)).length≤28:=by rw[List.length_map];exact n1 n
  have hsn:=zEd Ky.qs hx []
  generalize bdsU ([]++(z.keys.take n).flatMap Ky.qs)=L at*
  have q1:=zEN (orc:=orc) hi x.dn
  have q2:=zEN (orc:=orc) hi x.up
  refine zL _ _ hs hst fun fr=>?_
  refine kQ (kp rfl (zA (k_seq (k_cT rfl (kF (by omega)) (zV (k_seq (zR (kQ (wb (u:=(x).u) rfl ty22 rfl rfl (Int.natCast_nonneg _) (by simp[hx]) cl62 ?_)))))))))
  refine yL rfl rfl sh62 rfl ?_
  refine zi rfl ze62 ?_
  refine zS rfl (zT _ _) sh62 rfl rfl rfl rfl rfl ?_
  refine zA ?_
  refine zL [(1,U.box 0 0),(3,U.lst Kd.own 4 L),(5,U.box (List.length Y) 0),(9,.lst .ro 7 (kysU (Zt.keys z))),(10,.int .i64 ↑(List.length (Zt.keys z))),(11,.int .i64 ↑n)] (Y++[SB.box [.int .i64 (Prod.fst (Ky.bg x)),.int .i64 (Prod.snd (Ky.bg x)),.int .i64 (Prod.fst (Ky.rt x)),.int .i64 (Prod.snd (Ky.rt x)),U.bool (Ky.fx x),.int .i64 (Ky.dn x),.int .i64 (Ky.up x)]]) (.n6 rfl) (yK _ _ _) fun fr=>?_
  refine wM [.plain,.plain,.read true,.plain,.plain,.read true,.plain,.plain,.read true,.read false,.plain,.plain,.read true,.read false,.plain,.plain,.plain,.plain] (by kernel_rfl) (by kernel_rfl) (by kernel_rfl) ?_
  refine zC (zD rfl (zA rfl)) (zC (kw rfl fld62_0 (zA rfl)) ?_)
  refine zJ rfl (zg rfl rfl (zT _ _) sh35 rfl (zA rfl)) ?_
  refine zC (zZ rfl wW zAh rfl rfl (zA rfl)) ?_
  refine zC (kw rfl fld62_1 (zA rfl)) ?_
  refine zJ rfl (zg rfl rfl (zT _ _) sh35 rfl (zA rfl)) ?_
  refine zC (zZ rfl wW zAh rfl rfl (zA rfl)) ?_
  refine zC (kw rfl fld62_3 (zA rfl)) ?_
  refine zJ rfl (zI rfl rfl (zT _ _) sh3 rfl (zA rfl)) ?_
  refine yH rfl (q1) (zf _ _) (.lrefl _) ?_
  refine zC (zZ rfl wW zAh rfl rfl (zA rfl)) ?_
  refine zC (kw rfl fld62_4 (zA rfl)) ?_
  refine zJ rfl (zI rfl rfl (zT _ _) sh3 rfl (zA rfl)) ?_
  refine yH rfl (q2) (zf _ _) (.lrefl _) ?_
  refine zC (zZ rfl wW zAh rfl rfl (zA rfl)) ?_
  refine zC (zEv (es:=[U.agg [.int .i64 (Prod.fst (Ky.bg x)),.int .i64 (Prod.snd (Ky.bg x)),.int .i64 (5000:Int),.int .i64 (20000:Int)],U.agg [.int .i64 (Prod.fst (Ky.rt x)),.int .i64 (Prod.snd (Ky.rt x)),.int .i64 (-50:Int),.int .i64 50],U.agg [.int .i64 (Ky.dn x),.int .i64 (Ky.dn x),.int .i64 0,.int .i64 (1000:Int)],U.agg [.int .i64 (Ky.up x),.int .i64 (Ky.up x),.int .i64 0,.int .i64 (1000:Int)]]) rfl zFa wW zHR rfl rfl rfl rfl rfl rfl rfl rfl (zA rfl)) ?_
  refine zC (zAu 3 rfl zEk rfl rfl rfl (by simp) (by simp) (by simp[yW,zx,oneU]) (by show(L.length+4)*_≤_;omega) (zA rfl)) ?_
  refine zC (zE rfl (zA rfl)) ?_
  refine zAK ?_
  refine k_region ?_
  refine kz rfl (by unfold I64;omega) (zD rfl (zA ?_))
  exact⟨k - 1,by omega,n+1,by omega,growE hY,.cons rfl (.cons (congrArg (U.lst .own 4) hsn.symm) (.n3 rfl))⟩
 ·have hL:(bdsU ([]++(z.keys.take n).flatMap Ky.qs))=bdsU (z.keys.flatMap Ky.qs):=by rw[List.take_of_length_le (by omega),List.nil_append]
  rw[hL]at hs
  refine zL _ _ hs hst fun fr=>?_
  refine kQ (kp rfl (zA (k_seq (k_cF rfl (kG (by omega)) (yj (k_seq (kQ (kw rfl zDE (zI rfl rfl hY0 sh23 rfl ?_)))))))))
  refine zz rfl ty23 rfl (List.length_map _) ?_
  refine zD rfl (zA (zR ?_))
  refine yq (fun k st=>∃n:Nat,k+n=z.steps.length∧(∃e,st.st=[SB.box z.cs]++e)∧Holds st [(1,.box 0 0),(3,.lst .own 4 (bdsU (z.keys.flatMap Ky.qs++(z.steps.take n).flatMap stQ))),(34,.lst .ro 2 (spsU z.steps)),(35,.int .i64 z.steps.length),(36,.int .i64 n)]) (fun k st hI=>?_) z.steps.length _ ⟨0,rfl,⟨e,hY.symm⟩,.cons rfl (.cons (by show U.lst .own 4 (bdsU (z.keys.flatMap Ky.qs))=U.lst .own 4 (bdsU (z.keys.flatMap Ky.qs++[]));rw[List.append_nil]) (.n3 rfl))⟩
  clear hY hY0 hst
  obtain⟨n,hk,⟨e,hst⟩,hs⟩:=hI
  generalize hY:[SB.box z.cs]++e=Y at hst
  have hY0:Y[0]? =some (.box z.cs):=by rw[←hY];rfl
  by_cases hn:n<z.steps.length
  ·obtain⟨x,hx⟩:∃x,z.steps[n]? =some x:=⟨z.steps[n],List.getElem?_eq_getElem hn⟩
   have hL:(bdsU (z.keys.flatMap Ky.qs++(z.steps.take n).flatMap stQ)).length≤34:=by
    rw[List.length_map,List.length_append]
    have:=n1 z.keys.length
    rw[List.take_length]at this
    have:=n2 n
    omega
   have hsn:=zEd stQ hx (z.keys.flatMap Ky.qs)
   have hxu:(spsU z.steps)[n]? =some (spU x):=by rw[List.getElem?_map,hx];rfl
   generalize bdsU (z.keys.flatMap Ky.qs++(z.steps.take n).flatMap stQ)=L at*
   refine zL _ _ hs hst fun fr=>?_
   refine kQ (kp rfl (zA (k_seq (k_cT rfl (kF (by omega)) (zV (k_seq (zR (kQ (wb (u:=spU x) rfl ty23 rfl rfl (Int.natCast_nonneg _) hxu cl35 ?_)))))))))
   refine yL rfl rfl sh35 rfl ?_
   refine zi rfl ze35 ?_
   refine zS rfl (zT _ _) sh35 rfl rfl rfl rfl rfl ?_
   refine zA (k_region (zD rfl (zg rfl rfl (wz _ _ _) sh35 rfl ?_)))
   refine zZ rfl wW zAh rfl rfl ?_
   refine zEv (es:=[U.agg [.int .i64 (Prod.fst x),.int .i64 (Prod.snd x),.int .i64 0,.int .i64 (30000:Int)]]) rfl zFa wW zHR rfl rfl rfl rfl rfl rfl rfl rfl ?_
   refine zAu 3 rfl zEk rfl rfl rfl (by simp) (by simp) (by simp[yW,zx,oneU]) (by show(L.length+1)*_≤_;omega) ?_
   refine zE rfl (zA (k_region ?_))
   refine kz rfl (by unfold I64;omega) (zD rfl (zA ?_))
   exact⟨k - 1,by omega,n+1,by omega,growS hY,.cons rfl (.cons (congrArg (U.lst .own 4) hsn.symm) (.n3 rfl))⟩
  ·have hL:(bdsU (z.keys.flatMap Ky.qs++(z.steps.take n).flatMap stQ))=bdsU (keyQ z):=by rw[List.take_of_length_le (by omega)];rfl
   rw[hL]at hs
   generalize bdsU (keyQ z)=L at*
   refine zL _ _ hs hst fun fr=>?_
   refine kQ (kp rfl (zA (k_seq (k_cF rfl (kG (by omega)) (yj (kQ (zD rfl (zE rfl (zA (zw ?_))))))))))
   refine⟨.inr rfl,_,.cons _ _ _ _ (.tmp 2) .nil,?_⟩
   exact .refl _
set_option maxHeartbeats 8000000 in
theorem ret84(hi:Off is)(z:Zt)(hy:1≤z.yrs∧z.yrs≤40)(h0:1≤z.keys.length∧z.keys.length≤7)(h1:z.files.length≤6)(h2:z.looks.length≤12):RetP Tryz.prog is orc 84 [z.u] (.lst .ro 4 (bdsU (chgQ z))):=by
 refine yp body84 pure84 (hi 84 (by decide)) rfl rfl (zCl (zFh z 5)) (.inl (dat_bds _ 6)) ?_
 have n1:∀n,((z.files.take n).flatMap (Fl.qs z)).length≤18:=fun n=>by
  rw[zDF (Fl.qs z) 3 (fun _=>rfl),List.length_take];omega
 have n2:∀n,((z.looks.take n).flatMap (Lk.qs z)).length≤48:=fun n=>by
  rw[zDF (Lk.qs z) 4 (fun _=>rfl),List.length_take];omega
 refine kQ (ya rfl rfl ?_)
 refine zAP 4 rfl (fun _=>rfl) ?_
 refine zA ?_
 refine zL [(1,U.box 0 0)] ([SB.box [.int .i64 (Zt.yrs z),.lst .ro 7 (kysU (Zt.keys z)),.lst .ro 2 (spsU (Zt.steps z)),.lst .ro 4 (flsU (Zt.files z)),.lst .ro 4 (lksU (Zt.looks z))]]) (.n1 rfl) rfl fun fr=>?_
 refine kQ ?_
 refine zAP 4 rfl (fun _=>rfl) ?_
 refine zA (k_seq (kQ (kw rfl wo (kA sh24 rfl (zz rfl ty24 rfl (List.length_map _) ?_)))))
 refine zD rfl (zA (zR ?_))
 refine yq (fun k st=>∃n:Nat,k+n=z.files.length∧(∃e,st.st=[SB.box z.cs]++e)∧Holds st [(1,.box 0 0),(3,.lst .own 4 (bdsU ([]++(z.files.take n).flatMap (Fl.qs z)))),(9,.lst .ro 4 (flsU z.files)),(10,.int .i64 z.files.length),(11,.int .i64 n)]) (fun k st hI=>?_) z.files.length _ ⟨0,rfl,⟨[],rfl⟩,.c4 rfl rfl rfl rfl (.n1 rfl)⟩
 obtain⟨n,hk,⟨e,hst⟩,hs⟩:=hI
 generalize hY:[SB.box z.cs]++e=Y at hst
 have hY0:Y[0]? =some (.box z.cs):=by rw[←hY];rfl
 by_cases hn:n<z.files.length
 ·obtain⟨x,hx⟩:∃x,z.files[n]? =some x:=⟨z.files[n],List.getElem?_eq_getElem hn⟩
  have hL:(bdsU ([]++(z.files.take n).flatMap (Fl.qs z))).length≤18:=by rw[List.length_map];exact n1 n
  have hsn:=zEd (Fl.qs z) hx []
  generalize bdsU ([]++(z.files.take n).flatMap (Fl.qs z))=L at*
  have q1:=zEN (orc:=orc) hi x.yr
  have q2:=zEN (orc:=orc) hi x.ky
  refine zL _ _ hs hst fun fr=>?_
  refine kQ (kp rfl (zA (k_seq (k_cT rfl (kF (by omega)) (zV (k_seq (zR (kQ (wb (u:=(x).u) rfl ty24 rfl rfl (Int.natCast_nonneg _) (by simp[hx]) cl64 ?_)))))))))
  refine yL rfl rfl sh64 rfl ?_
  refine zi rfl ze64 ?_
  refine zS rfl (zT _ _) sh64 rfl rfl rfl rfl rfl ?_
  refine zA (wM [.plain,.plain,.read true,.read false,.plain,.read true,.plain,.plain,.plain,.read true,.read false,.plain,.read true,.read true,.plain,.plain,.plain,.read true,.plain,.plain,.plain,.plain] (by kernel_rfl) (by kernel_rfl) (by kernel_rfl) ?_)
  refine zC (zD rfl (zA rfl)) (zC (kw rfl zGw (zA rfl)) ?_)
  refine zJ rfl (zI rfl rfl (wz _ _ _) sh3 rfl (zA rfl)) ?_
  refine yH rfl (q1) (zf _ _) (.lrefl _) ?_
  refine zC (kw rfl wA (zA rfl)) ?_
  refine zJ rfl (zI rfl rfl (at_ps hY0) sh3 rfl (zA rfl)) ?_
  refine zC (zDc rfl rfl rfl (by unfold I64;omega) (zA rfl)) ?_
  refine zC (zZ rfl wW zAh rfl rfl (zA rfl)) ?_
  refine zC (kw rfl zFC (zA rfl)) ?_
  refine zJ rfl (zI rfl rfl (wz _ _ _) sh3 rfl (zA rfl)) ?_
  refine yH rfl (q2) (zf _ _) (.lrefl _) ?_
  refine zC (kw rfl yT (zA rfl)) ?_
  refine zJ rfl (zI rfl rfl (at_ps hY0) sh22 rfl (zA rfl)) ?_
  refine zJ rfl (zz rfl ty22 rfl (List.length_map _) (zA rfl)) ?_
  refine zC (zDc rfl rfl rfl (by unfold I64;omega) (zA rfl)) ?_
  refine zC (zZ rfl wW zAh rfl rfl (zA rfl)) ?_
  refine zC (kw rfl zGv (zA rfl)) ?_
  refine zJ rfl (zg rfl rfl (wz _ _ _) sh35 rfl (zA rfl)) ?_
  refine zC (zZ rfl wW zAh rfl rfl (zA rfl)) ?_
  refine zC (zEv (es:=[U.agg [.int .i64 (Fl.yr x),.int .i64 (Fl.yr x),.int .i64 0,.int .i64 (Zt.yrs z - (1:Int))],U.agg [.int .i64 (Fl.ky x),.int .i64 (Fl.ky x),.int .i64 0,.int .i64 (↑(List.length (Zt.keys z)) - (1:Int))],U.agg [.int .i64 (Prod.fst (Fl.bs x)),.int .i64 (Prod.snd (Fl.bs x)),.int .i64 (-200:Int),.int .i64 (200:Int)]]) rfl zFa wW zHR rfl rfl rfl rfl rfl rfl rfl rfl (zA rfl)) ?_
  refine zC (zAu 3 rfl zEk rfl rfl rfl (by simp) (by simp) (by simp[yW,zx,oneU]) (by show(L.length+3)*_≤_;omega) (zA rfl)) ?_
  refine zC (zE rfl (zA rfl)) ?_
  refine zAK ?_
  refine k_region ?_
  refine kz rfl (by unfold I64;omega) (zD rfl (zA ?_))
  exact⟨k - 1,by omega,n+1,by omega,growS hY,.cons rfl (.cons (congrArg (U.lst .own 4) hsn.symm) (.n3 rfl))⟩
 ·have hL:(bdsU ([]++(z.files.take n).flatMap (Fl.qs z)))=bdsU (z.files.flatMap (Fl.qs z)):=by rw[List.take_of_length_le (by omega),List.nil_append]
  rw[hL]at hs
  refine zL _ _ hs hst fun fr=>?_
  refine kQ (kp rfl (zA (k_seq (k_cF rfl (kG (by omega)) (yj (k_seq (kQ (kw rfl zCW (zI rfl rfl hY0 sh25 rfl ?_)))))))))
  refine zz rfl ty25 rfl (List.length_map _) ?_
  refine zD rfl (zA (zR ?_))
  refine yq (fun k st=>∃n:Nat,k+n=z.looks.length∧(∃e,st.st=[SB.box z.cs]++e)∧Holds st [(1,.box 0 0),(3,.lst .own 4 (bdsU (z.files.flatMap (Fl.qs z)++(z.looks.take n).flatMap (Lk.qs z)))),(38,.lst .ro 4 (lksU z.looks)),(39,.int .i64 z.looks.length),(40,.int .i64 n)]) (fun k st hI=>?_) z.looks.length _ ⟨0,rfl,⟨e,hY.symm⟩,.cons rfl (.cons (by show U.lst .own 4 (bdsU (z.files.flatMap (Fl.qs z)))=U.lst .own 4 (bdsU (z.files.flatMap (Fl.qs z)++[]));rw[List.append_nil]) (.n3 rfl))⟩
  clear hY hY0 hst
  obtain⟨n,hk,⟨e,hst⟩,hs⟩:=hI
  generalize hY:[SB.box z.cs]++e=Y at hst
  have hY0:Y[0]? =some (.box z.cs):=by rw[←hY];rfl
  by_cases hn:n<z.looks.length
  ·obtain⟨x,hx⟩:∃x,z.looks[n]? =some x:=⟨z.looks[n],List.getElem?_eq_getElem hn⟩
   have hL:(bdsU (z.files.flatMap (Fl.qs z)++(z.looks.take n).flatMap (Lk.qs z))).length≤66:=by
    rw[List.length_map,List.length_append]
    have:=n1 z.files.length
    rw[List.take_length]at this
    have:=n2 n
    omega
   have hsn:=zEd (Lk.qs z) hx (z.files.flatMap (Fl.qs z))
   generalize bdsU (z.files.flatMap (Fl.qs z)++(z.looks.take n).flatMap (Lk.qs z))=L at*
   have q1:=zEN (orc:=orc) hi x.yr
   have q2:=zEN (orc:=orc) hi x.ky
   have q3:=zEN (orc:=orc) hi x.rd
   have q4:=zEN (orc:=orc) hi x.er
   refine zL _ _ hs hst fun fr=>?_
   refine kQ (kp rfl (zA (k_seq (k_cT rfl (kF (by omega)) (zV (k_seq (zR (kQ (wb (u:=(x).u) rfl ty25 rfl rfl (Int.natCast_nonneg _) (by simp[hx]) cl68 ?_)))))))))
   refine yL rfl rfl sh68 rfl ?_
   refine zi rfl ze68 ?_
   refine zS rfl (zT _ _) sh68 rfl rfl rfl rfl rfl ?_
   refine zA (wM [.plain,.plain,.read true,.read false,.plain,.read true,.plain,.plain,.read true,.read false,.plain,.read true,.read true,.plain,.plain,.plain,.read true,.read false,.plain,.plain,.read true,.read false,.plain,.plain,.plain,.plain] (by kernel_rfl) (by kernel_rfl) (by kernel_rfl) ?_)
   refine zC (zD rfl (zA rfl)) (zC (kw rfl fld68_0 (zA rfl)) ?_)
   refine zJ rfl (zI rfl rfl (wz _ _ _) sh3 rfl (zA rfl)) ?_
   refine yH rfl (q1) (zf _ _) (.lrefl _) ?_
   refine zC (kw rfl wA (zA rfl)) ?_
   refine zJ rfl (zI rfl rfl (at_ps hY0) sh3 rfl (zA rfl)) ?_
   refine zC (zZ rfl wW zAh rfl rfl (zA rfl)) ?_
   refine zC (kw rfl fld68_1 (zA rfl)) ?_
   refine zJ rfl (zI rfl rfl (wz _ _ _) sh3 rfl (zA rfl)) ?_
   refine yH rfl (q2) (zf _ _) (.lrefl _) ?_
   refine zC (kw rfl yT (zA rfl)) ?_
   refine zJ rfl (zI rfl rfl (at_ps hY0) sh22 rfl (zA rfl)) ?_
   refine zJ rfl (zz rfl ty22 rfl (List.length_map _) (zA rfl)) ?_
   refine zC (zDc rfl rfl rfl (by unfold I64;omega) (zA rfl)) ?_
   refine zC (zZ rfl wW zAh rfl rfl (zA rfl)) ?_
   refine zC (kw rfl fld68_2 (zA rfl)) ?_
   refine zJ rfl (zI rfl rfl (wz _ _ _) sh3 rfl (zA rfl)) ?_
   refine yH rfl (q3) (zf _ _) (.lrefl _) ?_
   refine zC (zZ rfl wW zAh rfl rfl (zA rfl)) ?_
   refine zC (kw rfl fld68_3 (zA rfl)) ?_
   refine zJ rfl (zI rfl rfl (wz _ _ _) sh3 rfl (zA rfl)) ?_
   refine yH rfl (q4) (zf _ _) (.lrefl _) ?_
   refine zC (zZ rfl wW zAh rfl rfl (zA rfl)) ?_
   refine zC (zEv (es:=[U.agg [.int .i64 (Lk.yr x),.int .i64 (Lk.yr x),.int .i64 0,.int .i64 (Zt.yrs z)],U.agg [.int .i64 (Lk.ky x),.int .i64 (Lk.ky x),.int .i64 0,.int .i64 (↑(List.length (Zt.keys z)) - (1:Int))],U.agg [.int .i64 (Lk.rd x),.int .i64 (Lk.rd x),.int .i64 0,.int .i64 (30000:Int)],U.agg [.int .i64 (Lk.er x),.int .i64 (Lk.er x),.int .i64 0,.int .i64 (500:Int)]]) rfl zFa wW zHR rfl rfl rfl rfl rfl rfl rfl rfl (zA rfl)) ?_
   refine zC (zAu 3 rfl zEk rfl rfl rfl (by simp) (by simp) (by simp[yW,zx,oneU]) (by show(L.length+4)*_≤_;omega) (zA rfl)) ?_
   refine zC (zE rfl (zA rfl)) ?_
   refine zAK ?_
   refine k_region ?_
   refine kz rfl (by unfold I64;omega) (zD rfl (zA ?_))
   exact⟨k - 1,by omega,n+1,by omega,growS hY,.cons rfl (.cons (congrArg (U.lst .own 4) hsn.symm) (.n3 rfl))⟩
  ·have hL:(bdsU (z.files.flatMap (Fl.qs z)++(z.looks.take n).flatMap (Lk.qs z)))=bdsU (chgQ z):=by rw[List.take_of_length_le (by omega)];rfl
   rw[hL]at hs
   generalize bdsU (chgQ z)=L at*
   refine zL _ _ hs hst fun fr=>?_
   refine kQ (kp rfl (zA (k_seq (k_cF rfl (kG (by omega)) (yj (kQ (zD rfl (zE rfl (zA (zw ?_))))))))))
   refine⟨.inr rfl,_,.cons _ _ _ _ (.tmp 2) .nil,?_⟩
   exact .refl _
noncomputable def zAZ(z:Zt):Bool:=(numQ z).all Bq.ok&&((keyQ z).all Bq.ok&&(chgQ z).all Bq.ok)
theorem num_iff:(numQ z).all Bq.ok=true↔(1≤z.yrs∧z.yrs≤40)∧(1≤z.keys.length∧z.keys.length≤7)∧z.steps.length+1=z.keys.length∧z.files.length≤6∧z.looks.length≤12:=by
 unfold numQ
 simp only[List.all_cons,List.all_nil,Bool.and_true,Bool.and_eq_true,Bq.ok,good_one]
 constructor
 ·rintro⟨h1,h2,h3,h4,h5⟩
  rw[wrap64 (by unfold I64;omega)]at h3
  omega
 ·rintro⟨h1,h2,h3,h4,h5⟩
  rw[wrap64 (by unfold I64;omega)]
  omega
theorem zGH{α:Type}(f:α→List Bq)(l:List α):(l.flatMap f).all Bq.ok=true↔ ∀x∈l,(f x).all Bq.ok=true:=by
 rw[List.all_eq_true]
 simp only[List.mem_flatMap,List.all_eq_true]
 exact⟨fun h x hx y hy=>h y ⟨x,hx,hy⟩,fun h y ⟨x,hx,hy⟩=>h x hx y hy⟩
theorem zBR:zAZ z=true↔ZOk z:=by
 unfold zAZ
 rw[Bool.and_eq_true,Bool.and_eq_true,num_iff]
 unfold keyQ chgQ
 rw[List.all_append,List.all_append,Bool.and_eq_true,Bool.and_eq_true,zGH,zGH,zGH,zGH]
 simp only[Ky.qs,stQ,Fl.qs,Lk.qs,List.all_cons,List.all_nil,Bool.and_true,Bool.and_eq_true,Bq.ok,good_one]
 have g:∀{lo hi:Int} {x:Sp},zFA lo hi x.1 x.2=true↔zCF lo hi x:=good_iff
 simp only[g]
 constructor
 ·rintro⟨⟨h1,h2,h3,h4,h5⟩,⟨h6,h7⟩,h8,h9⟩
  exact⟨h1,h2,h3,h4,h5,h6,h7,h8,h9⟩
 ·intro h
  exact⟨⟨h.y,h.k,h.s,h.f,h.l⟩,⟨h.kk,h.ss⟩,h.ff,h.ll⟩
set_option maxHeartbeats 8000000 in
theorem ret54(hi:Off is)(z:Zt):RetP Tryz.prog is orc 54 [z.u] (.bool (zAZ z)):=by
 refine yp body54 pure54 (hi 54 (by decide)) rfl rfl (zCl (zFh z 5)) (.inl (.bool _ _)) ?_
 have q1:=zEN (orc:=orc) hi z.yrs
 have q2:=zEN (orc:=orc) hi z.keys.length
 have q3:=zEN (orc:=orc) hi z.steps.length
 have q4:=zEN (orc:=orc) hi z.files.length
 have q5:=zEN (orc:=orc) hi z.looks.length
 have q82:=ret82 (orc:=orc) hi (numQ z) (by show 5≤4096;decide)
 cases hA:(numQ z).all Bq.ok with
 |false=>
  rw[show zAZ z=false by unfold zAZ;rw[hA];rfl]
  rw[hA]at q82
  refine kQ (ya rfl rfl (zE rfl (zA ?_)))
  refine zL [(1,U.box 0 0)] ([SB.box [.int .i64 (Zt.yrs z),.lst .ro 7 (kysU (Zt.keys z)),.lst .ro 2 (spsU (Zt.steps z)),.lst .ro 4 (flsU (Zt.files z)),.lst .ro 4 (lksU (Zt.looks z))]]) (.n1 rfl) rfl fun fr=>?_
  refine k_seq (wM [.plain,.read true,.read false,.plain,.plain,.read true,.read true,.read false,.plain,.plain,.read true,.read true,.read false,.plain,.read true,.read true,.plain,.plain,.read true,.read true,.plain,.plain,.plain,.read true,.read true,.read false,.plain,.plain,.read true,.read true,.read false,.plain,.plain,.plain] (by kernel_rfl) (by kernel_rfl) (by kernel_rfl) ?_)
  refine zC (kw rfl wA (zA rfl)) ?_
  refine zJ rfl (kA sh3 rfl (zA rfl)) (yH rfl (q1) (zf _ _) (.lrefl _) ?_)
  refine zC (zZ rfl wW zAh rfl rfl (zA rfl)) ?_
  refine zC (kw rfl yT (zA rfl)) ?_
  refine zJ rfl (kA sh22 rfl (zA rfl)) (zJ rfl (zz rfl ty22 rfl (List.length_map _) (zA rfl)) ?_)
  refine yH rfl (q2) (zf _ _) (.lrefl _) ?_
  refine zC (zZ rfl wW zAh rfl rfl (zA rfl)) ?_
  refine zp [(1,U.box 0 0),(7,U.agg [.int .i64 (Zt.yrs z),.int .i64 (Zt.yrs z),.int .i64 1,.int .i64 40]),(12,U.agg [.int .i64 ↑(List.length (Zt.keys z)),.int .i64 ↑(List.length (Zt.keys z)),.int .i64 1,.int .i64 7])] [] ([SB.box [.int .i64 (Zt.yrs z),.lst .ro 7 (kysU (Zt.keys z)),.lst .ro 2 (spsU (Zt.steps z)),.lst .ro 4 (flsU (Zt.files z)),.lst .ro 4 (lksU (Zt.looks z))]]) (.n3 rfl) rfl rfl fun fr=>?_
  refine zC (kw rfl zDE (zA rfl)) ?_
  refine zJ rfl (kA sh23 rfl (zA rfl)) (zJ rfl (zz rfl ty23 rfl (List.length_map _) (zA rfl)) ?_)
  refine yH rfl (q3) (zf _ _) (.lrefl _) ?_
  refine zC (kw rfl yT (zA rfl)) ?_
  refine zJ rfl (kA sh22 rfl (zA rfl)) (zJ rfl (zz rfl ty22 rfl (List.length_map _) (zA rfl)) ?_)
  refine zC (zDs (v:=.int .i64 (wR .i64 ((z.keys.length:Int) - 1))) rfl rfl rfl rfl rfl (zA rfl)) ?_
  refine zC (kw rfl yT (zA rfl)) ?_
  refine zp [(1,U.box 0 0),(7,U.agg [.int .i64 (Zt.yrs z),.int .i64 (Zt.yrs z),.int .i64 1,.int .i64 40]),(12,U.agg [.int .i64 ↑(List.length (Zt.keys z)),.int .i64 ↑(List.length (Zt.keys z)),.int .i64 1,.int .i64 7]),(16,yQ ↑(List.length (Zt.steps z)) ↑(List.length (Zt.steps z))),(20,.int .i64 (wR .i64 (↑(List.length (Zt.keys z)) - (1:Int)))),(21,U.box 0 1)] [] ([SB.box [.int .i64 (Zt.yrs z),.lst .ro 7 (kysU (Zt.keys z)),.lst .ro 2 (spsU (Zt.steps z)),.lst .ro 4 (flsU (Zt.files z)),.lst .ro 4 (lksU (Zt.looks z))]]) (.n6 rfl) rfl rfl fun fr=>?_
  refine zJ rfl (kA sh22 rfl (zA rfl)) (zJ rfl (zz rfl ty22 rfl (List.length_map _) (zA rfl)) ?_)
  refine zC (zDs (v:=.int .i64 (wR .i64 ((z.keys.length:Int) - 1))) rfl rfl rfl rfl rfl (zA rfl)) ?_
  refine zC (zZ rfl wW zAh rfl rfl (zA rfl)) ?_
  refine zC (kw rfl wo (zA rfl)) ?_
  refine zJ rfl (kA sh24 rfl (zA rfl)) (zJ rfl (zz rfl ty24 rfl (List.length_map _) (zA rfl)) ?_)
  refine yH rfl (q4) (zf _ _) (.lrefl _) ?_
  refine zC (zZ rfl wW zAh rfl rfl (zA rfl)) ?_
  refine zp [(1,U.box 0 0),(7,U.agg [.int .i64 (Zt.yrs z),.int .i64 (Zt.yrs z),.int .i64 1,.int .i64 40]),(12,U.agg [.int .i64 ↑(List.length (Zt.keys z)),.int .i64 ↑(List.length (Zt.keys z)),.int .i64 1,.int .i64 7]),(25,U.agg [.int .i64 ↑(List.length (Zt.steps z)),.int .i64 ↑(List.length (Zt.steps z)),.int .i64 (wR .i64 (↑(List.length (Zt.keys z)) - (1:Int))),.int .i64 (wR .i64 (↑(List.length (Zt.keys z)) - (1:Int)))]),(30,U.agg [.int .i64 ↑(List.length (Zt.files z)),.int .i64 ↑(List.length (Zt.files z)),.int .i64 0,.int .i64 6])] [] ([SB.box [.int .i64 (Zt.yrs z),.lst .ro 7 (kysU (Zt.keys z)),.lst .ro 2 (spsU (Zt.steps z)),.lst .ro 4 (flsU (Zt.files z)),.lst .ro 4 (lksU (Zt.looks z))]]) (.n5 rfl) rfl rfl fun fr=>?_
  refine zC (kw rfl zCW (zA rfl)) ?_
  refine zJ rfl (kA sh25 rfl (zA rfl)) (zJ rfl (zz rfl ty25 rfl (List.length_map _) (zA rfl)) ?_)
  refine yH rfl (q5) (zf _ _) (.lrefl _) ?_
  refine zC (zZ rfl wW zAh rfl rfl (zA rfl)) ?_
  refine zC (zEv (es:=[U.agg [.int .i64 (Zt.yrs z),.int .i64 (Zt.yrs z),.int .i64 1,.int .i64 40],U.agg [.int .i64 ↑(List.length (Zt.keys z)),.int .i64 ↑(List.length (Zt.keys z)),.int .i64 1,.int .i64 7],U.agg [.int .i64 ↑(List.length (Zt.steps z)),.int .i64 ↑(List.length (Zt.steps z)),.int .i64 (wR .i64 (↑(List.length (Zt.keys z)) - (1:Int))),.int .i64 (wR .i64 (↑(List.length (Zt.keys z)) - (1:Int)))],U.agg [.int .i64 ↑(List.length (Zt.files z)),.int .i64 ↑(List.length (Zt.files z)),.int .i64 0,.int .i64 6],U.agg [.int .i64 ↑(List.length (Zt.looks z)),.int .i64 ↑(List.length (Zt.looks z)),.int .i64 0,.int .i64 12]]) rfl zFa wW zHR rfl rfl rfl rfl rfl rfl rfl rfl (zA rfl)) ?_
  refine zC (zE rfl (zA rfl)) ?_
  refine zAK ?_
  refine zL [(1,U.box 0 0),(3,.lst .full 4 [U.agg [.int .i64 (Zt.yrs z),.int .i64 (Zt.yrs z),.int .i64 1,.int .i64 40],U.agg [.int .i64 ↑(List.length (Zt.keys z)),.int .i64 ↑(List.length (Zt.keys z)),.int .i64 1,.int .i64 7],U.agg [.int .i64 ↑(List.length (Zt.steps z)),.int .i64 ↑(List.length (Zt.steps z)),.int .i64 (wR .i64 (↑(List.length (Zt.keys z)) - (1:Int))),.int .i64 (wR .i64 (↑(List.length (Zt.keys z)) - (1:Int)))],U.agg [.int .i64 ↑(List.length (Zt.files z)),.int .i64 ↑(List.length (Zt.files z)),.int .i64 0,.int .i64 6],U.agg [.int .i64 ↑(List.length (Zt.looks z)),.int .i64 ↑(List.length (Zt.looks z)),.int .i64 0,.int .i64 12]])] ([SB.box [.int .i64 (Zt.yrs z),.lst .ro 7 (kysU (Zt.keys z)),.lst .ro 2 (spsU (Zt.steps z)),.lst .ro 4 (flsU (Zt.files z)),.lst .ro 4 (lksU (Zt.looks z))]]) (.n2 rfl) rfl fun fr=>?_
  refine kQ (zD rfl (zY rfl (q82) (.lcons _ _ _ _ (.ro _ _ _) (.lrefl _)) ?_))
  refine zD rfl (ke rfl (ke rfl (ke rfl (kD rfl ?_))))
  refine zD rfl (ke rfl ?_)
  refine yJ [(44,.bool false),(45,U.tup [])] [] ([SB.box [.int .i64 (Zt.yrs z),.lst .ro 7 (kysU (Zt.keys z)),.lst .ro 2 (spsU (Zt.steps z)),.lst .ro 4 (flsU (Zt.files z)),.lst .ro 4 (lksU (Zt.looks z))]]) (.n2 rfl) rfl rfl fun fr=>?_
  refine ke rfl (ke rfl (kD rfl ?_))
  refine zE rfl (zA (zw ?_))
  refine⟨.inr rfl,_,.cons _ _ _ _ (.tmp 2) .nil,?_⟩
  exact .refl _
 |true=>
  have h:=num_iff.1 hA
  have q83:=ret83 (orc:=orc) hi z (by omega) (by omega)
  have q84:=ret84 (orc:=orc) hi z h.1 h.2.1 (by omega) (by omega)
  have l1:(keyQ z).length≤4096:=by unfold keyQ;rw[List.length_append,zDF Ky.qs 4 (fun _=>rfl),zDF stQ 1 (fun _=>rfl)];omega
  have l2:(chgQ z).length≤4096:=by unfold chgQ;rw[List.length_append,zDF (Fl.qs z) 3 (fun _=>rfl),zDF (Lk.qs z) 4 (fun _=>rfl)];omega
  have q82b:=ret82 (orc:=orc) hi (keyQ z) l1
  have q82c:=ret82 (orc:=orc) hi (chgQ z) l2
  rw[show zAZ z=((keyQ z).all Bq.ok&&(chgQ z).all Bq.ok) by unfold zAZ;rw[hA];rfl]
  rw[hA]at q82
  generalize (keyQ z).all Bq.ok=B1 at*
  generalize (chgQ z).all Bq.ok=B2 at*
  cases B1 with
  |false=>
   refine kQ (ya rfl rfl (zE rfl (zA ?_)))
   refine zL [(1,U.box 0 0)] ([SB.box [.int .i64 (Zt.yrs z),.lst .ro 7 (kysU (Zt.keys z)),.lst .ro 2 (spsU (Zt.steps z)),.lst .ro 4 (flsU (Zt.files z)),.lst .ro 4 (lksU (Zt.looks z))]]) (.n1 rfl) rfl fun fr=>?_
   refine k_seq (wM [.plain,.read true,.read false,.plain,.plain,.read true,.read true,.read false,.plain,.plain,.read true,.read true,.read false,.plain,.read true,.read true,.plain,.plain,.read true,.read true,.plain,.plain,.plain,.read true,.read true,.read false,.plain,.plain,.read true,.read true,.read false,.plain,.plain,.plain] (by kernel_rfl) (by kernel_rfl) (by kernel_rfl) ?_)
   refine zC (kw rfl wA (zA rfl)) ?_
   refine zJ rfl (kA sh3 rfl (zA rfl)) (yH rfl (q1) (zf _ _) (.lrefl _) ?_)
   refine zC (zZ rfl wW zAh rfl rfl (zA rfl)) ?_
   refine zC (kw rfl yT (zA rfl)) ?_
   refine zJ rfl (kA sh22 rfl (zA rfl)) (zJ rfl (zz rfl ty22 rfl (List.length_map _) (zA rfl)) ?_)
   refine yH rfl (q2) (zf _ _) (.lrefl _) ?_
   refine zC (zZ rfl wW zAh rfl rfl (zA rfl)) ?_
   refine zp [(1,U.box 0 0),(7,U.agg [.int .i64 (Zt.yrs z),.int .i64 (Zt.yrs z),.int .i64 1,.int .i64 40]),(12,U.agg [.int .i64 ↑(List.length (Zt.keys z)),.int .i64 ↑(List.length (Zt.keys z)),.int .i64 1,.int .i64 7])] [] ([SB.box [.int .i64 (Zt.yrs z),.lst .ro 7 (kysU (Zt.keys z)),.lst .ro 2 (spsU (Zt.steps z)),.lst .ro 4 (flsU (Zt.files z)),.lst .ro 4 (lksU (Zt.looks z))]]) (.n3 rfl) rfl rfl fun fr=>?_
   refine zC (kw rfl zDE (zA rfl)) ?_
   refine zJ rfl (kA sh23 rfl (zA rfl)) (zJ rfl (zz rfl ty23 rfl (List.length_map _) (zA rfl)) ?_)
   refine yH rfl (q3) (zf _ _) (.lrefl _) ?_
   refine zC (kw rfl yT (zA rfl)) ?_
   refine zJ rfl (kA sh22 rfl (zA rfl)) (zJ rfl (zz rfl ty22 rfl (List.length_map _) (zA rfl)) ?_)
   refine zC (zDs (v:=.int .i64 (wR .i64 ((z.keys.length:Int) - 1))) rfl rfl rfl rfl rfl (zA rfl)) ?_
   refine zC (kw rfl yT (zA rfl)) ?_
   refine zp [(1,U.box 0 0),(7,U.agg [.int .i64 (Zt.yrs z),.int .i64 (Zt.yrs z),.int .i64 1,.int .i64 40]),(12,U.agg [.int .i64 ↑(List.length (Zt.keys z)),.int .i64 ↑(List.length (Zt.keys z)),.int .i64 1,.int .i64 7]),(16,yQ ↑(List.length (Zt.steps z)) ↑(List.length (Zt.steps z))),(20,.int .i64 (wR .i64 (↑(List.length (Zt.keys z)) - (1:Int)))),(21,U.box 0 1)] [] ([SB.box [.int .i64 (Zt.yrs z),.lst .ro 7 (kysU (Zt.keys z)),.lst .ro 2 (spsU (Zt.steps z)),.lst .ro 4 (flsU (Zt.files z)),.lst .ro 4 (lksU (Zt.looks z))]]) (.n6 rfl) rfl rfl fun fr=>?_
   refine zJ rfl (kA sh22 rfl (zA rfl)) (zJ rfl (zz rfl ty22 rfl (List.length_map _) (zA rfl)) ?_)
   refine zC (zDs (v:=.int .i64 (wR .i64 ((z.keys.length:Int) - 1))) rfl rfl rfl rfl rfl (zA rfl)) ?_
   refine zC (zZ rfl wW zAh rfl rfl (zA rfl)) ?_
   refine zC (kw rfl wo (zA rfl)) ?_
   refine zJ rfl (kA sh24 rfl (zA rfl)) (zJ rfl (zz rfl ty24 rfl (List.length_map _) (zA rfl)) ?_)
   refine yH rfl (q4) (zf _ _) (.lrefl _) ?_
   refine zC (zZ rfl wW zAh rfl rfl (zA rfl)) ?_
   refine zp [(1,U.box 0 0),(7,U.agg [.int .i64 (Zt.yrs z),.int .i64 (Zt.yrs z),.int .i64 1,.int .i64 40]),(12,U.agg [.int .i64 ↑(List.length (Zt.keys z)),.int .i64 ↑(List.length (Zt.keys z)),.int .i64 1,.int .i64 7]),(25,U.agg [.int .i64 ↑(List.length (Zt.steps z)),.int .i64 ↑(List.length (Zt.steps z)),.int .i64 (wR .i64 (↑(List.length (Zt.keys z)) - (1:Int))),.int .i64 (wR .i64 (↑(List.length (Zt.keys z)) - (1:Int)))]),(30,U.agg [.int .i64 ↑(List.length (Zt.files z)),.int .i64 ↑(List.length (Zt.files z)),.int .i64 0,.int .i64 6])] [] ([SB.box [.int .i64 (Zt.yrs z),.lst .ro 7 (kysU (Zt.keys z)),.lst .ro 2 (spsU (Zt.steps z)),.lst .ro 4 (flsU (Zt.files z)),.lst .ro 4 (lksU (Zt.looks z))]]) (.n5 rfl) rfl rfl fun fr=>?_
   refine zC (kw rfl zCW (zA rfl)) ?_
   refine zJ rfl (kA sh25 rfl (zA rfl)) (zJ rfl (zz rfl ty25 rfl (List.length_map _) (zA rfl)) ?_)
   refine yH rfl (q5) (zf _ _) (.lrefl _) ?_
   refine zC (zZ rfl wW zAh rfl rfl (zA rfl)) ?_
   refine zC (zEv (es:=[U.agg [.int .i64 (Zt.yrs z),.int .i64 (Zt.yrs z),.int .i64 1,.int .i64 40],U.agg [.int .i64 ↑(List.length (Zt.keys z)),.int .i64 ↑(List.length (Zt.keys z)),.int .i64 1,.int .i64 7],U.agg [.int .i64 ↑(List.length (Zt.steps z)),.int .i64 ↑(List.length (Zt.steps z)),.int .i64 (wR .i64 (↑(List.length (Zt.keys z)) - (1:Int))),.int .i64 (wR .i64 (↑(List.length (Zt.keys z)) - (1:Int)))],U.agg [.int .i64 ↑(List.length (Zt.files z)),.int .i64 ↑(List.length (Zt.files z)),.int .i64 0,.int .i64 6],U.agg [.int .i64 ↑(List.length (Zt.looks z)),.int .i64 ↑(List.length (Zt.looks z)),.int .i64 0,.int .i64 12]]) rfl zFa wW zHR rfl rfl rfl rfl rfl rfl rfl rfl (zA rfl)) ?_
   refine zC (zE rfl (zA rfl)) ?_
   refine zAK ?_
   refine zL [(1,U.box 0 0),(3,.lst .full 4 [U.agg [.int .i64 (Zt.yrs z),.int .i64 (Zt.yrs z),.int .i64 1,.int .i64 40],U.agg [.int .i64 ↑(List.length (Zt.keys z)),.int .i64 ↑(List.length (Zt.keys z)),.int .i64 1,.int .i64 7],U.agg [.int .i64 ↑(List.length (Zt.steps z)),.int .i64 ↑(List.length (Zt.steps z)),.int .i64 (wR .i64 (↑(List.length (Zt.keys z)) - (1:Int))),.int .i64 (wR .i64 (↑(List.length (Zt.keys z)) - (1:Int)))],U.agg [.int .i64 ↑(List.length (Zt.files z)),.int .i64 ↑(List.length (Zt.files z)),.int .i64 0,.int .i64 6],U.agg [.int .i64 ↑(List.length (Zt.looks z)),.int .i64 ↑(List.length (Zt.looks z)),.int .i64 0,.int .i64 12]])] ([SB.box [.int .i64 (Zt.yrs z),.lst .ro 7 (kysU (Zt.keys z)),.lst .ro 2 (spsU (Zt.steps z)),.lst .ro 4 (flsU (Zt.files z)),.lst .ro 4 (lksU (Zt.looks z))]]) (.n2 rfl) rfl fun fr=>?_
   refine kQ (zD rfl (zY rfl (q82) (.lcons _ _ _ _ (.ro _ _ _) (.lrefl _)) ?_))
   refine zD rfl (kf rfl (kB sh27 rfl (kf rfl (zY rfl (q83) (.lrefl _) (kf rfl (zY rfl (q82b) (.lrefl _) (kE rfl ?_)))))))
   refine zD rfl (ke rfl ?_)
   refine yJ [(44,.bool false),(45,U.tup [])] [] ([SB.box [.int .i64 (Zt.yrs z),.lst .ro 7 (kysU (Zt.keys z)),.lst .ro 2 (spsU (Zt.steps z)),.lst .ro 4 (flsU (Zt.files z)),.lst .ro 4 (lksU (Zt.looks z))]]) (.n2 rfl) rfl rfl fun fr=>?_
   refine ke rfl (ke rfl (kD rfl ?_))
   refine zE rfl (zA (zw ?_))
   refine⟨.inr rfl,_,.cons _ _ _ _ (.tmp 2) .nil,?_⟩
   exact .refl _
  |true=>
   refine kQ (ya rfl rfl (zE rfl (zA ?_)))
   refine zL [(1,U.box 0 0)] ([SB.box [.int .i64 (Zt.yrs z),.lst .ro 7 (kysU (Zt.keys z)),.lst .ro 2 (spsU (Zt.steps z)),.lst .ro 4 (flsU (Zt.files z)),.lst .ro 4 (lksU (Zt.looks z))]]) (.n1 rfl) rfl fun fr=>?_
   refine k_seq (wM [.plain,.read true,.read false,.plain,.plain,.read true,.read true,.read false,.plain,.plain,.read true,.read true,.read false,.plain,.read true,.read true,.plain,.plain,.read true,.read true,.plain,.plain,.plain,.read true,.read true,.read false,.plain,.plain,.read true,.read true,.read false,.plain,.plain,.plain] (by kernel_rfl) (by kernel_rfl) (by kernel_rfl) ?_)
   refine zC (kw rfl wA (zA rfl)) ?_
   refine zJ rfl (kA sh3 rfl (zA rfl)) (yH rfl (q1) (zf _ _) (.lrefl _) ?_)
   refine zC (zZ rfl wW zAh rfl rfl (zA rfl)) ?_
   refine zC (kw rfl yT (zA rfl)) ?_
   refine zJ rfl (kA sh22 rfl (zA rfl)) (zJ rfl (zz rfl ty22 rfl (List.length_map _) (zA rfl)) ?_)
   refine yH rfl (q2) (zf _ _) (.lrefl _) ?_
   refine zC (zZ rfl wW zAh rfl rfl (zA rfl)) ?_
   refine zp [(1,U.box 0 0),(7,U.agg [.int .i64 (Zt.yrs z),.int .i64 (Zt.yrs z),.int .i64 1,.int .i64 40]),(12,U.agg [.int .i64 ↑(List.length (Zt.keys z)),.int .i64 ↑(List.length (Zt.keys z)),.int .i64 1,.int .i64 7])] [] ([SB.box [.int .i64 (Zt.yrs z),.lst .ro 7 (kysU (Zt.keys z)),.lst .ro 2 (spsU (Zt.steps z)),.lst .ro 4 (flsU (Zt.files z)),.lst .ro 4 (lksU (Zt.looks z))]]) (.n3 rfl) rfl rfl fun fr=>?_
   refine zC (kw rfl zDE (zA rfl)) ?_
   refine zJ rfl (kA sh23 rfl (zA rfl)) (zJ rfl (zz rfl ty23 rfl (List.length_map _) (zA rfl)) ?_)
   refine yH rfl (q3) (zf _ _) (.lrefl _) ?_
   refine zC (kw rfl yT (zA rfl)) ?_
   refine zJ rfl (kA sh22 rfl (zA rfl)) (zJ rfl (zz rfl ty22 rfl (List.length_map _) (zA rfl)) ?_)
   refine zC (zDs (v:=.int .i64 (wR .i64 ((z.keys.length:Int) - 1))) rfl rfl rfl rfl rfl (zA rfl)) ?_
   refine zC (kw rfl yT (zA rfl)) ?_
   refine zp [(1,U.box 0 0),(7,U.agg [.int .i64 (Zt.yrs z),.int .i64 (Zt.yrs z),.int .i64 1,.int .i64 40]),(12,U.agg [.int .i64 ↑(List.length (Zt.keys z)),.int .i64 ↑(List.length (Zt.keys z)),.int .i64 1,.int .i64 7]),(16,yQ ↑(List.length (Zt.steps z)) ↑(List.length (Zt.steps z))),(20,.int .i64 (wR .i64 (↑(List.length (Zt.keys z)) - (1:Int)))),(21,U.box 0 1)] [] ([SB.box [.int .i64 (Zt.yrs z),.lst .ro 7 (kysU (Zt.keys z)),.lst .ro 2 (spsU (Zt.steps z)),.lst .ro 4 (flsU (Zt.files z)),.lst .ro 4 (lksU (Zt.looks z))]]) (.n6 rfl) rfl rfl fun fr=>?_
   refine zJ rfl (kA sh22 rfl (zA rfl)) (zJ rfl (zz rfl ty22 rfl (List.length_map _) (zA rfl)) ?_)
   refine zC (zDs (v:=.int .i64 (wR .i64 ((z.keys.length:Int) - 1))) rfl rfl rfl rfl rfl (zA rfl)) ?_
   refine zC (zZ rfl wW zAh rfl rfl (zA rfl)) ?_
   refine zC (kw rfl wo (zA rfl)) ?_
   refine zJ rfl (kA sh24 rfl (zA rfl)) (zJ rfl (zz rfl ty24 rfl (List.length_map _) (zA rfl)) ?_)
   refine yH rfl (q4) (zf _ _) (.lrefl _) ?_
   refine zC (zZ rfl wW zAh rfl rfl (zA rfl)) ?_
   refine zp [(1,U.box 0 0),(7,U.agg [.int .i64 (Zt.yrs z),.int .i64 (Zt.yrs z),.int .i64 1,.int .i64 40]),(12,U.agg [.int .i64 ↑(List.length (Zt.keys z)),.int .i64 ↑(List.length (Zt.keys z)),.int .i64 1,.int .i64 7]),(25,U.agg [.int .i64 ↑(List.length (Zt.steps z)),.int .i64 ↑(List.length (Zt.steps z)),.int .i64 (wR .i64 (↑(List.length (Zt.keys z)) - (1:Int))),.int .i64 (wR .i64 (↑(List.length (Zt.keys z)) - (1:Int)))]),(30,U.agg [.int .i64 ↑(List.length (Zt.files z)),.int .i64 ↑(List.length (Zt.files z)),.int .i64 0,.int .i64 6])] [] ([SB.box [.int .i64 (Zt.yrs z),.lst .ro 7 (kysU (Zt.keys z)),.lst .ro 2 (spsU (Zt.steps z)),.lst .ro 4 (flsU (Zt.files z)),.lst .ro 4 (lksU (Zt.looks z))]]) (.n5 rfl) rfl rfl fun fr=>?_
   refine zC (kw rfl zCW (zA rfl)) ?_
   refine zJ rfl (kA sh25 rfl (zA rfl)) (zJ rfl (zz rfl ty25 rfl (List.length_map _) (zA rfl)) ?_)
   refine yH rfl (q5) (zf _ _) (.lrefl _) ?_
   refine zC (zZ rfl wW zAh rfl rfl (zA rfl)) ?_
   refine zC (zEv (es:=[U.agg [.int .i64 (Zt.yrs z),.int .i64 (Zt.yrs z),.int .i64 1,.int .i64 40],U.agg [.int .i64 ↑(List.length (Zt.keys z)),.int .i64 ↑(List.length (Zt.keys z)),.int .i64 1,.int .i64 7],U.agg [.int .i64 ↑(List.length (Zt.steps z)),.int .i64 ↑(List.length (Zt.steps z)),.int .i64 (wR .i64 (↑(List.length (Zt.keys z)) - (1:Int))),.int .i64 (wR .i64 (↑(List.length (Zt.keys z)) - (1:Int)))],U.agg [.int .i64 ↑(List.length (Zt.files z)),.int .i64 ↑(List.length (Zt.files z)),.int .i64 0,.int .i64 6],U.agg [.int .i64 ↑(List.length (Zt.looks z)),.int .i64 ↑(List.length (Zt.looks z)),.int .i64 0,.int .i64 12]]) rfl zFa wW zHR rfl rfl rfl rfl rfl rfl rfl rfl (zA rfl)) ?_
   refine zC (zE rfl (zA rfl)) ?_
   refine zAK ?_
   refine zL [(1,U.box 0 0),(3,.lst .full 4 [U.agg [.int .i64 (Zt.yrs z),.int .i64 (Zt.yrs z),.int .i64 1,.int .i64 40],U.agg [.int .i64 ↑(List.length (Zt.keys z)),.int .i64 ↑(List.length (Zt.keys z)),.int .i64 1,.int .i64 7],U.agg [.int .i64 ↑(List.length (Zt.steps z)),.int .i64 ↑(List.length (Zt.steps z)),.int .i64 (wR .i64 (↑(List.length (Zt.keys z)) - (1:Int))),.int .i64 (wR .i64 (↑(List.length (Zt.keys z)) - (1:Int)))],U.agg [.int .i64 ↑(List.length (Zt.files z)),.int .i64 ↑(List.length (Zt.files z)),.int .i64 0,.int .i64 6],U.agg [.int .i64 ↑(List.length (Zt.looks z)),.int .i64 ↑(List.length (Zt.looks z)),.int .i64 0,.int .i64 12]])] ([SB.box [.int .i64 (Zt.yrs z),.lst .ro 7 (kysU (Zt.keys z)),.lst .ro 2 (spsU (Zt.steps z)),.lst .ro 4 (flsU (Zt.files z)),.lst .ro 4 (lksU (Zt.looks z))]]) (.n2 rfl) rfl fun fr=>?_
   refine kQ (zD rfl (zY rfl (q82) (.lcons _ _ _ _ (.ro _ _ _) (.lrefl _)) ?_))
   refine zD rfl (kf rfl (kB sh27 rfl (kf rfl (zY rfl (q83) (.lrefl _) (kf rfl (zY rfl (q82b) (.lrefl _) (kE rfl ?_)))))))
   refine zD rfl (kf rfl (kB sh27 rfl ?_))
   refine yJ [(44,.bool true),(45,U.agg [.int .i64 (Zt.yrs z),.lst .ro 7 (kysU (Zt.keys z)),.lst .ro 2 (spsU (Zt.steps z)),.lst .ro 4 (flsU (Zt.files z)),.lst .ro 4 (lksU (Zt.looks z))])] [] ([SB.box [.int .i64 (Zt.yrs z),.lst .ro 7 (kysU (Zt.keys z)),.lst .ro 2 (spsU (Zt.steps z)),.lst .ro 4 (flsU (Zt.files z)),.lst .ro 4 (lksU (Zt.looks z))]]) (.n2 rfl) rfl rfl fun fr=>?_
   refine kf rfl ?_
   refine yJ [(44,.bool true),(45,U.agg [.int .i64 (Zt.yrs z),.lst .ro 7 (kysU (Zt.keys z)),.lst .ro 2 (spsU (Zt.steps z)),.lst .ro 4 (flsU (Zt.files z)),.lst .ro 4 (lksU (Zt.looks z))])] [] ([SB.box [.int .i64 (Zt.yrs z),.lst .ro 7 (kysU (Zt.keys z)),.lst .ro 2 (spsU (Zt.steps z)),.lst .ro 4 (flsU (Zt.files z)),.lst .ro 4 (lksU (Zt.looks z))]]) (.n2 rfl) rfl rfl fun fr=>?_
   refine zY rfl (q84) (.lrefl _) (kf rfl (zY rfl (q82c) (.lrefl _) (kE rfl ?_)))
   refine zE rfl (zA (zw ?_))
   refine⟨.inr rfl,_,.cons _ _ _ _ (.tmp 2) .nil,?_⟩
   exact .refl _
theorem ret17(hi:Off is)(z:Zt):RetP Tryz.prog is orc 17 [z.u] (.int .i64 (if zAZ z=true then 0 else 40)):=by
 have q54:=ret54 (orc:=orc) hi z
 refine yp body17 pure17 (hi 17 (by decide)) rfl rfl (zCl (zFh z 5)) (.inl (.int _ _ _)) ?_
 generalize zAZ z=v at*
 cases v with
 |false=>
  refine kQ (ya rfl rfl (zE rfl (zA ?_)))
  refine zL [(1,U.box 0 0)] ([SB.box [.int .i64 (Zt.yrs z),.lst .ro 7 (kysU (Zt.keys z)),.lst .ro 2 (spsU (Zt.steps z)),.lst .ro 4 (flsU (Zt.files z)),.lst .ro 4 (lksU (Zt.looks z))]]) (.n1 rfl) rfl fun fr=>?_
  refine k_seq (kQ (kB sh27 rfl (zY rfl (q54) (.lrefl _) (zCp rfl rfl (zA (k_cT rfl rfl ?_))))))
  refine kQ (zE rfl (zA (zw ?_)))
  refine⟨.inr rfl,_,.cons _ _ _ _ (.tmp 2) .nil,?_⟩
  exact .refl _
 |true=>
  refine kQ (ya rfl rfl (zE rfl (zA ?_)))
  refine zL [(1,U.box 0 0)] ([SB.box [.int .i64 (Zt.yrs z),.lst .ro 7 (kysU (Zt.keys z)),.lst .ro 2 (spsU (Zt.steps z)),.lst .ro 4 (flsU (Zt.files z)),.lst .ro 4 (lksU (Zt.looks z))]]) (.n1 rfl) rfl fun fr=>?_
  refine k_seq (kQ (kB sh27 rfl (zY rfl (q54) (.lrefl _) (zCp rfl rfl (zA (k_cF rfl rfl ?_))))))
  refine zV (kQ (zE rfl (zA (zw ?_))))
  refine⟨.inr rfl,_,.cons _ _ _ _ (.tmp 2) .nil,?_⟩
  exact .refl _
end Go.Proofs.YtpckmojdekdbbaaGreat.settles
