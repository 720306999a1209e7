import Derived.Test.YtpckmojdekdbbaaGreatVamT4
set_option linter.unusedVariables false
set_option linter.unusedSimpArgs false
set_option linter.constructorNameAsVariable false
namespace Go.Proofs.YtpckmojdekdbbaaGreat.settles
open Vam
section look
variable {Pr:Prt}{φ φ':BMap}{S S':SMap}{s s':St}{tm tm':TT}{H H':CH}{P:Program}{is:FuncId→Bool}{orc:Known}
theorem zGX{E:Ev}{all:List Oper}{o:Oper}(hh:∀v H1,evOp P E tm H o.op=.ok v H1→H1=H)(h:yN P E all (o,.plain) tm H=.ok tm' H'):yN P E all (o,.read true) tm H=.ok tm' H':=by
 have h:Vam.cond (zBl all tm o.guard) (wO o.dst tm (evOp P E tm H o.op)) (.ok (setT tm o.dst Vam.undef) H)=.ok tm' H':=h
 show Vam.cond (zBl all tm o.guard) (wO o.dst tm (zAa P E true tm H o.op)) (.ok (setT tm o.dst Vam.undef) H)=.ok tm' H'
 cases hw:zBl all tm o.guard with
 |false=>rw[hw]at h;exact h
 |true=>
  rw[hw]at h
  have hh2:wO o.dst tm (evOp P E tm H o.op)=.ok tm' H':=h
  show wO o.dst tm (zAa P E true tm H o.op)=.ok tm' H'
  cases he:evOp P E tm H o.op with
  |no=>rw[he]at hh2;cases hh2
  |ok v H1=>
   rw[he]at hh2
   have e:=hh _ _ he
   subst e
   have:zAa P E true tm H1 o.op=.ok v H1:=by
    show R.rec (motive:=fun _=>R) .no (fun v _=>Vam.cond (Vam.cond true true (zAE v)) (.ok v H1) .no) (evOp P E tm H1 o.op)=_
    rw[he];rfl
   rw[this];exact hh2
theorem d_look{all:List Oper}{dst:Option Nat}{xt t:TypeId}{x y:Operand}{ok:Bool}{pp:String}{ee:Array Edge}{g:Option (Nat×Bool)}{l:List (Oper×M0)}{s1:St}{Q:St→Prop}(h:WpO P is orc all [⟨dst,.lookup xt x y ok,t,pp,ee,g⟩] s fun s'=>s'=s1)(k:WpD P is orc all l s1 Q):WpD P is orc all ((⟨dst,.lookup xt x y ok,t,pp,ee,g⟩,.read true)::l) s Q:=by
 intro Pr φ S tm H m0 hm hp hs
 cases hm with
 |read _ _ _ m hm=>
  have e:pend (((⟨dst,.lookup xt x y ok,t,pp,ee,g⟩:Oper),Md.read true)::m)=pend m:=rfl
  rw[e]at hp hs
  obtain⟨s2,tm1,H1,φ1,S1,⟨n1,r1⟩,r2,r3,r4,r5,rfl⟩:=h _ φ S tm H hs
  exact zDi ⟨n1,fun n hn'=>zGX (fun v H1 hh=>(yZ (show zt H (wn P H xt (zG tm x) (zG tm y) ok)=.ok v H1 from hh)).2) (by rw[←zFo];exact r1 n hn')⟩ r3 r4 (r5.weaken (fun b hb=>.inl hb) fun _ h=>h) (hm.keep fun i hi=>r5.get i (.inr hi)) ⟨hp.nodup,fun i hi=>by rw[r5.fz];exact hp.ok i hi,hp.out,hp.odd⟩ r2 k
end look
variable {is:FuncId→Bool}{orc:Known}{z:Zt}
theorem fld83_1:zc Tryz.prog 83 1=some (5,80):=by kernel_rfl
theorem pl83:zHN Tryz.prog 83=some [(0,5),(5,1),(6,1)]:=by kernel_rfl
theorem pl90:zHN Tryz.prog 90=some [(0,1),(1,1)]:=by kernel_rfl
theorem sh80:shOf Tryz.prog 80=.one:=by kernel_rfl
theorem sh83:shOf Tryz.prog 83=.many 7:=by kernel_rfl
theorem sh90:shOf Tryz.prog 90=.many 2:=by kernel_rfl
theorem ze83:yf Tryz.prog 83=some ((.cons (.int .i64 0) (.cons .nils (.cons .nils (.cons .nils (.cons .nils (.cons .nilm (.cons .nils .nil))))))):V):=by kernel_rfl
theorem ze90:yf Tryz.prog 90=some ((.cons (.int .i64 0) (.cons (.int .i64 0) .nil)):V):=by kernel_rfl
noncomputable def b79:Code:=(Tryz.f79.body).getD .skip
theorem body79:bodyOf Tryz.prog 79=some (34,b79,[.cell 2 83]):=by kernel_rfl
theorem pure79:pureFn Tryz.prog 79=false:=by kernel_rfl
theorem by35:Program.bytesOf Tryz.prog 35=16:=by kernel_rfl
theorem zCX:zc Tryz.prog 123 0=some (0,83):=by kernel_rfl
theorem zGD:zc Tryz.prog 123 1=some (7,3):=by kernel_rfl
theorem zAV:zc Tryz.prog 83 0=some (0,27):=by kernel_rfl
theorem ap23_23:AppT Tryz.prog 23 23 35 2 16 ((.cons (.int .i64 0) (.cons (.int .i64 0) .nil)):V):=⟨ty23,⟨_,ty23⟩,cl35,by decide,by35,ze35,rfl⟩
noncomputable def b105:Code:=(Tryz.f105.body).getD .skip
theorem body105:bodyOf Tryz.prog 105=some (40,b105,[.tmp 2]):=by kernel_rfl
theorem pure105:pureFn Tryz.prog 105=false:=by kernel_rfl
theorem zAb{A B:List SB}{j:Nat}{x:SB}(h:B[j]? =some x):(A++B)[A.length+j]? =some x:=by
 rw[List.getElem?_append_right (by omega),Nat.add_sub_cancel_left];exact h
theorem zEp{A B:List SB}{j:Nat}{x:SB}:(A++B).set (A.length+j) x=A++B.set j x:=by
 rw[List.set_append_right _ _ (by omega),Nat.add_sub_cancel_left]
theorem zFi{l:List SB}{i:Nat}{x y:SB}(h:l[i]? =some x):(l.set i y)[i]? =some y:=by rw[List.getElem?_set_self (List.getElem?_eq_some_iff.1 h).1]
theorem ty80:tyOf Tryz.prog 80=.map 90 35:=by kernel_rfl
theorem zv35:zHI Tryz.prog 35=some (.agg (zF [.int .i64 0,.int .i64 0])):=by kernel_rfl
theorem eq90(a c x y:Int):eqT Tryz.prog 90 (valK (yQ a c)) (valK (yQ x y))=some ((a==x)&&(c==y)):=by
 have h:eqT Tryz.prog 90 (valK (yQ a c)) (valK (yQ x y))=Vam.cond (ieq a x) (Vam.cond (ieq c y) (some true) (some false)) (some false):=by kernel_rfl
 rw[h,zAT,zAT]
 cases a==x<;>cases c==y<;>rfl
theorem same90(a c:Int):sameV (valK (yQ a c)) (valK (yQ a c))=true:=by
 have h:sameV (valK (yQ a c)) (valK (yQ a c))=Vam.cond (ieq a a) (Vam.cond (ieq c c) true false) false:=by kernel_rfl
 rw[h,zAT,zAT,show(a==a)=true by simp,show(c==c)=true by simp];rfl
noncomputable def gvS(es:List (U×U))(k y:Int):U:=match getK es (yQ k y)with|some u=>u|none=>yQ 0 0
structure MapOk(es:List (U×U))(fs:List Fl):Prop where
 e:∀q∈es,∃k y a b:Int,q=(yQ k y,yQ a b)
 v:∀k y,gvS es k y=spU (filS fs k y (0,0))
theorem mapOk_nil:MapOk [] []:=⟨fun q hq=>(by cases hq),fun k y=>rfl⟩
theorem span_inj{a b c d:Int}:yQ a b=yQ c d↔a=c∧b=d:=by
 simp only[U.agg.injEq,List.cons.injEq,U.int.injEq,true_and,and_true]
theorem fil_snoc(fs:List Fl)(f:Fl)(k y:Int)(a:Sp):filS (fs++[f]) k y a=if f.ky=k∧f.yr=y then zBT (filS fs k y a) f.bs else filS fs k y a:=by
 unfold filS;rw[List.foldl_append];rfl
theorem mapOk_snoc{es:List (U×U)}{fs:List Fl}(h:MapOk es fs)(f:Fl):MapOk (setK es (yQ f.ky f.yr) (spU (zBT (filS fs f.ky f.yr (0,0)) f.bs))) (fs++[f]):=by
 refine⟨fun q hq=>?_,fun k y=>?_⟩
 ·rcases mem_setK hq with rfl|hq
  ·exact⟨_,_,_,_,rfl⟩
  ·exact h.e q hq
 ·have h1:=h.v k y
  haveI:Decidable (yQ k y=yQ f.ky f.yr):=Classical.propDecidable _
  unfold gvS at h1 ⊢
  rw[getK_setK,fil_snoc]
  by_cases c:f.ky=k∧f.yr=y
  ·obtain⟨rfl,rfl⟩:=c
   rw[if_pos rfl,if_pos ⟨rfl,rfl⟩]
  ·rw[if_neg (fun e=>c (by have:=span_inj.1 e;omega)),if_neg c]
   exact h1
theorem keyOk90{es:List (U×U)}{fs:List Fl}(h:MapOk es fs)(k y:Int):KeyOk Tryz.prog 90 (yQ k y) es:=by
 refine⟨rfl,?_,same90 _ _,fun q hq=>?_⟩
 ·kernel_rfl
 ·obtain⟨k2,y2,a,b,rfl⟩:=h.e q hq
  refine⟨rfl,_,eq90 _ _ _ _,?_⟩
  simp only[Bool.and_eq_true,beq_iff_eq,U.agg.injEq,List.cons.injEq,U.int.injEq,true_and,and_true]
  omega
theorem mapOk_bd{es:List (U×U)}{fs:List Fl}(h:MapOk es fs)(n:Nat):BdS n (.map es)∧FwdS n (.map es):=by
 refine⟨fun q hq=>?_,fun q hq=>?_⟩
 ·obtain⟨k,y,a,b,rfl⟩:=h.e q hq
  exact⟨(yO k y 0).bd _,(yO a b 0).bd _⟩
 ·obtain⟨k,y,a,b,rfl⟩:=h.e q hq
  exact⟨(yO k y 0).nb.fwd _,(yO a b 0).nb.fwd _⟩
def Pln(x:SB):Prop:=∀n,BdS n x∧FwdS n x
theorem zEs{k:Nat}{cs:List U}(h:∀c∈cs,Dat k c):Pln (.box cs):=fun n=>⟨fun c hc=>(h c hc).bd n,fun c hc=>(h c hc).nb.fwd n⟩
theorem fil_top{fs:List Fl}(h6:fs.length≤6)(hf:∀x∈fs,zCF (-200) 200 x.bs)(k y:Int): -1200≤(filS fs k y (0,0)).1∧(filS fs k y (0,0)).1≤1200∧ -1200≤(filS fs k y (0,0)).2∧(filS fs k y (0,0)).2≤1200:=by
 have h1:=fil_bnd (k:=k) (y:=y) fs (0,0) hf
 have h2:=nfl_le fs k y
 have h3:=h1.2.2 (Int.le_refl _)
 simp only at h1
 omega
abbrev setC(z:Zt)(m w:U):List U:=[.int .i64 z.yrs,.lst .ro 7 (kysU z.keys),.lst .ro 2 (spsU z.steps),.lst .ro 4 (flsU z.files),.lst .ro 4 (lksU z.looks),m,w]
abbrev zset:List U:=[.int .i64 0,.lst .full 0 [],.lst .full 0 [],.lst .full 0 [],.lst .full 0 [],.nilm,.lst .full 0 []]
def nsV(z:Zt)(st:List SB)(es:List (U×U)):List SB:=st++[.box z.cs,.box zset,.map es,.box (setC z (.mp (st.length+2)) (.lst .full 0 []))]
theorem nsV_at(z:Zt)(st:List SB)(es:List (U×U))(e:List SB):(nsV z st es++e)[st.length]? =some (.box z.cs)∧(nsV z st es++e)[st.length+1]? =some (.box zset)∧(nsV z st es++e)[st.length+2]? =some (.map es)∧(nsV z st es++e)[st.length+3]? =some (.box (setC z (.mp (st.length+2)) (.lst .full 0 []))):=by
 unfold nsV
 rw[List.append_assoc]
 exact⟨zAb (j:=0) rfl,zAb (j:=1) rfl,zAb (j:=2) rfl,zAb (j:=3) rfl⟩
theorem nsV_set(z:Zt)(st:List SB)(es es2:List (U×U))(e:List SB):(nsV z st es++e).set (st.length+2) (.map es2)=nsV z st es2++e:=by
 unfold nsV
 rw[List.append_assoc,zEp,List.append_assoc];rfl
set_option maxHeartbeats 16000000 in
theorem wpc79(hi:Off is)(h:ZOk z)(st:List SB):WpC Tryz.prog is orc 79 [z.u] st fun u st'=>u=.agg (setC z (.mp (st.length+2)) (.lst .full 0 []))∧∃es e,MapOk es z.files∧(∀x∈e,Pln x)∧st'=(nsV z st es++e).set (st.length+1) (.box (setC z (.mp (st.length+2)) (.lst .full 0 []))):=by
 refine zGI body79 pure79 rfl rfl ?_
 have h6:=h.f
 refine kQ (ya rfl rfl (zi rfl ze83 ?_))
 refine zA ?_
 refine zL [(1,U.box (List.length st) 0),(2,U.box (List.length (st++[SB.box [.int .i64 (Zt.yrs z),.lst .ro 7 (kysU (Zt.keys z)),.lst .ro 2 (spsU (Zt.steps z)),.lst .ro 4 (flsU (Zt.files z)),.lst .ro 4 (lksU (Zt.looks z))]])) 0)] (st++[SB.box [.int .i64 (Zt.yrs z),.lst .ro 7 (kysU (Zt.keys z)),.lst .ro 2 (spsU (Zt.steps z)),.lst .ro 4 (flsU (Zt.files z)),.lst .ro 4 (lksU (Zt.looks z))]]++[SB.box [.int .i64 0,.lst .full 0 [],.lst .full 0 [],.lst .full 0 [],.lst .full 0 [],U.nilm,.lst .full 0 []]]) (.n2 rfl) rfl fun fr=>?_
 refine zL [(1,.box st.length 0),(2,.box (st.length+1) 0)] (st++[.box z.cs,.box zset]) (.cons rfl (.cons (by show U.box _ 0=_;simp) (.nil rfl))) (by show(st++[_])++[_]=_;simp) fun fr=>?_
 have y0:(st++[SB.box z.cs,.box zset])[st.length]? =some (.box z.cs):=zAb (j:=0) rfl
 refine kQ (zg rfl rfl y0 sh27 rfl ?_)
 refine o_makeMap rfl ty80 ?_
 refine zZ rfl ze83 pl83 rfl rfl ?_
 refine zi rfl ze83 ?_
 refine zS rfl (zT _ _) sh83 rfl rfl rfl rfl rfl ?_
 refine zA ?_
 refine zL [(1,U.box (List.length st) 0),(2,U.box (List.length st+1) 0),(3,U.box (List.length (st++[SB.box (Zt.cs z),SB.box zset]++[SB.map []])) 0)] (st++[SB.box (Zt.cs z),SB.box zset]++[SB.map []]++[SB.box [.int .i64 (Zt.yrs z),.lst .ro 7 (kysU (Zt.keys z)),.lst .ro 2 (spsU (Zt.steps z)),.lst .ro 4 (flsU (Zt.files z)),.lst .ro 4 (lksU (Zt.looks z)),U.mp (List.length (st++[SB.box (Zt.cs z),SB.box zset])),.lst .full 0 []]]) (.n3 rfl) (yK _ _ _) fun fr=>?_
 refine zL [(1,.box st.length 0),(2,.box (st.length+1) 0),(3,.box (st.length+3) 0)] (nsV z st []) (.cons rfl (.cons rfl (.cons (by show U.box _ 0=_;simp) (.nil rfl)))) (by show _=_;unfold nsV;simp) fun fr2=>?_
 have y1:=(nsV_at z st [] []).1
 rw[List.append_nil]at y1
 refine k_seq (kQ (kw rfl wo (zI rfl rfl y1 sh24 rfl ?_)))
 refine zz rfl ty24 rfl (List.length_map _) ?_
 refine zD rfl (zA (zR ?_))
 refine yq (fun k s1=>∃(i:Nat) (es:List (U×U)) (e:List SB),k+i=z.files.length∧MapOk es (z.files.take i)∧(∀x∈e,Pln x)∧s1.st=nsV z st es++e∧Holds s1 [(2,.box (st.length+1) 0),(3,.box (st.length+3) 0),(11,.lst .ro 4 (flsU z.files)),(12,.int .i64 z.files.length),(13,.int .i64 i)]) (fun k s1 hI=>?_) z.files.length _ ⟨0,[],[],rfl,mapOk_nil,(fun x hx=>by cases hx),(by rw[List.append_nil];rfl),.c4 rfl rfl rfl rfl (.n1 rfl)⟩
 obtain⟨i,es,e,hk,hm,he,hst,hs⟩:=hI
 obtain⟨yA,yB,yC,yD⟩:=nsV_at z st es e
 by_cases hin:i<z.files.length
 ·obtain⟨f,hf⟩:∃f,z.files[i]? =some f:=⟨z.files[i],List.getElem?_eq_getElem hin⟩
  have hsn:=mapOk_snoc hm f
  rw[←zGN hf]at hsn
  have hv:=hm.v f.ky f.yr
  have hfb:=(h.ff f (List.mem_of_getElem? hf)).2.2
  have hft:=fil_top (fs:=z.files.take i) (by rw[List.length_take];omega) (fun x hx=>(h.ff x (List.mem_of_mem_take hx)).2.2) f.ky f.yr
  generalize filS (z.files.take i) f.ky f.yr (0,0)=s at*
  obtain⟨s1',s2'⟩:=s
  unfold zCF at hfb
  have q1:=ret103 (orc:=orc) hi s1' s2' f.bs.1 f.bs.2 (by unfold I64;simp only at hft;omega) (by unfold I64;simp only at hft;omega)
  have hns:=nsV_set z st es (setK es (yQ f.ky f.yr) (spU (zBT (s1',s2') f.bs)))
  obtain⟨Y,hY⟩:∃Y,Y=nsV z st es++e:=⟨_,rfl⟩
  rw[←hY]at hst yA yB yC yD
  refine zL _ _ hs hst fun fr3=>?_
  refine kQ (kp rfl (zA (k_seq (k_cT rfl (kF (by omega)) (zV (k_seq (zR (kQ (wb (u:=(f).u) rfl ty24 rfl rfl (Int.natCast_nonneg _) (by simp[hf]) cl64 ?_)))))))))
  refine yL rfl rfl sh64 rfl ?_
  refine zi rfl ze64 ?_
  refine zS rfl (zT _ _) sh64 rfl rfl rfl rfl rfl ?_
  refine zA ?_
  refine zL [(2,U.box (List.length st+1) 0),(3,U.box (List.length st+3) 0),(5,U.box (List.length Y) 0),(11,.lst .ro 4 (flsU (Zt.files z))),(12,.int .i64 ↑(List.length (Zt.files z))),(13,.int .i64 ↑i)] (Y++[SB.box [.int .i64 (Fl.yr f),.int .i64 (Fl.ky f),.int .i64 (Prod.fst (Fl.bs f)),.int .i64 (Prod.snd (Fl.bs f))]]) (.n6 rfl) (yK _ _ _) fun fr=>?_
  refine kQ (kw rfl zFC (zI rfl rfl (zT _ _) sh3 rfl ?_))
  refine kw rfl zGw (zI rfl rfl (zT _ _) sh3 rfl ?_)
  refine zZ rfl ze90 pl90 rfl rfl ?_
  refine zi rfl ze90 ?_
  refine zS rfl (zT _ _) sh90 rfl rfl rfl rfl rfl ?_
  refine zA ?_
  refine zL [(2,U.box (List.length st+1) 0),(3,U.box (List.length st+3) 0),(5,U.box (List.length Y) 0),(6,U.box (List.length (Y++[SB.box [.int .i64 (Fl.yr f),.int .i64 (Fl.ky f),.int .i64 (Prod.fst (Fl.bs f)),.int .i64 (Prod.snd (Fl.bs f))]])) 0),(11,.lst .ro 4 (flsU (Zt.files z))),(12,.int .i64 ↑(List.length (Zt.files z))),(13,.int .i64 ↑i)] (Y++[SB.box [.int .i64 (Fl.yr f),.int .i64 (Fl.ky f),.int .i64 (Prod.fst (Fl.bs f)),.int .i64 (Prod.snd (Fl.bs f))]]++[SB.box [.int .i64 (Fl.ky f),.int .i64 (Fl.yr f)]]) (.n7 rfl) (yK _ _ _) fun fr=>?_
  refine wM [.plain,.read true,.read true,.plain,.read true,.read true,.read true,.plain,.read true,.read false,.plain] (by kernel_rfl) (by kernel_rfl) (by kernel_rfl) ?_
  refine zC (kw rfl fld83_1 (zA rfl)) ?_
  refine zJ rfl (zI rfl rfl (zn (zn yD)) sh80 rfl (zA rfl)) ?_
  refine zJ rfl (zg rfl rfl (zT _ _) sh90 rfl (zA rfl)) ?_
  refine zC (kw rfl fld83_1 (zA rfl)) ?_
  refine zJ rfl (zI rfl rfl (zn (zn yD)) sh80 rfl (zA rfl)) ?_
  refine zJ rfl (zg rfl rfl (zT _ _) sh90 rfl (zA rfl)) ?_
  refine d_look (o_lookup (key:=yQ f.ky f.yr) (kt:=90) (el:=35) (r:=spU (s1',s2')) (ok:=false) rfl ty80 rfl (zn (zn yC)) rfl (keyOk90 hm f.ky f.yr) zv35 rfl (fun m hm=>by cases hm;exact⟨_,rfl⟩) hv.symm (zA rfl)) ?_
  refine zC (kw rfl zGv (zA rfl)) ?_
  refine zJ rfl (zg rfl rfl (zn (zT _ _)) sh35 rfl (zA rfl)) ?_
  refine yH rfl (q1) (zf _ _) (.lrefl _) ?_
  refine zC (o_mapUpdate rfl ty80 rfl (zn (zn yC)) rfl (keyOk90 hm f.ky f.yr) (zA rfl)) ?_
  refine zAK ?_
  refine k_region ?_
  refine kz rfl (by unfold I64;omega) (zD rfl (zA ?_))
  refine⟨k - 1,by omega,i+1,_,e++[SB.box [.int .i64 f.yr,.int .i64 f.ky,.int .i64 f.bs.1,.int .i64 f.bs.2],SB.box [.int .i64 f.ky,.int .i64 f.yr]],by omega,hsn,fun x hx=>?_,?_,.c4 rfl rfl rfl rfl (.n1 rfl)⟩
  ·rcases List.mem_append.1 hx with hx|hx
   ·exact he x hx
   ·simp only[List.mem_cons,List.not_mem_nil,or_false]at hx
    rcases hx with rfl|rfl
    ·exact zEs (zHC (.int 0 _ _) (.int 0 _ _) (.int 0 _ _) (.int 0 _ _))
    ·exact zEs (wQ (.int 0 _ _) (.int 0 _ _))
  ·show((Y++[_])++[_]).set (st.length+2) (.map _)=_
   rw[List.append_assoc,hY,List.append_assoc]
   exact nsV_set _ _ _ _ _
 ·obtain rfl:i=z.files.length:=by omega
  rw[List.take_length]at hm
  refine zL _ _ hs hst fun fr3=>?_
  refine kQ (kp rfl (zA (k_seq (k_cF rfl (kG (by omega)) (yj (kQ (zg rfl rfl yD sh83 rfl ?_)))))))
  refine zS rfl yB sh83 rfl rfl rfl rfl rfl ?_
  refine zA (zw ?_)
  exact⟨.inr rfl,_,.cons _ _ _ _ (.cellN 2 83 _ _ _ _ rfl (zFi yB) sh83 rfl) .nil,_,.refl _,rfl,es,e,hm,he,rfl⟩
theorem dat_spsF(l:List Sp)(k:Nat):Dat (k+2) (.lst .full 2 (spsU l)):=by
 refine .lst _ .full _ _ (fun h=>by cases h) fun c hc=>?_
 obtain⟨e,he,hc⟩:=List.mem_flatMap.1 hc
 obtain⟨x,_,rfl⟩:=List.mem_map.1 he
 exact wQ (.int _ _ _) (.int _ _ _) c hc
abbrev crsC(z:Zt)(m w:U)(k:Int):List U:=[.int .i64 z.yrs,.lst .ro 7 (kysU z.keys),.lst .ro 2 (spsU z.steps),.lst .ro 4 (flsU z.files),.lst .ro 4 (lksU z.looks),m,w,.int .i64 k]
set_option maxHeartbeats 16000000 in
theorem wpc105(hi:Off is)(h:ZOk z){k:Nat}(hk:k<z.keys.length){m:Nat}{es:List (U×U)}(hm:MapOk es z.files){w:List U}{st:List SB}(hst0:st[m]? =some (.map es)∨st[m]? =some (.fmap es))(hb:∀x∈st,BdS st.length x):WpC Tryz.prog is orc 105 [.agg (crsC z (.mp m) (.lst .ro 82 w) k)] st fun u st'=>u=.lst .full 2 (spsU ((List.range z.yrs.toNat).map (grwS z k)))∧st'=st:=by
 refine zDk body105 pure105 rfl rfl ?_
 have hy:=h.y
 obtain⟨ky,hky⟩:∃x,z.keys[k]? =some x:=⟨z.keys[k],List.getElem?_eq_getElem hk⟩
 have hkz:z.key k=ky:=by unfold Zt.key;rw[hky];rfl
 refine kQ (ya rfl rfl ?_)
 refine zAP 2 rfl (fun _=>rfl) ?_
 refine zA ?_
 refine zL [(1,U.box (List.length st) 0)] (st++[SB.box [.int .i64 (Zt.yrs z),.lst .ro 7 (kysU (Zt.keys z)),.lst .ro 2 (spsU (Zt.steps z)),.lst .ro 4 (flsU (Zt.files z)),.lst .ro 4 (lksU (Zt.looks z)),U.mp m,.lst .ro 82 w,.int .i64 ↑k]]) (.n1 rfl) rfl fun fr=>?_
 refine kQ ?_
 refine zAP 2 rfl (fun _=>rfl) ?_
 refine zA (k_seq (kQ (kw rfl zCX (kw rfl zAV (kw rfl wA (zI rfl rfl (zT _ _) sh3 rfl ?_))))))
 refine zD rfl (zA (zR ?_))
 obtain⟨Y,hY⟩:∃Y,Y=st++[SB.box (crsC z (.mp m) (.lst .ro 82 w) k)]:=⟨_,rfl⟩
 have yA:Y[st.length]? =some (.box (crsC z (.mp m) (.lst .ro 82 w) k)):=by rw[hY];exact zT _ _
 have yB:Y[m]? =some (.map es)∨Y[m]? =some (.fmap es):=by rw[hY];exact hst0.imp zn zn
 refine yq (fun kk s1=>∃i:Nat,kk+i=z.yrs.toNat∧s1.st=Y∧Holds s1 [(1,.box st.length 0),(3,.lst .own 2 (spsU ((List.range i).map (grwS z k)))),(8,.int .i64 z.yrs),(9,.int .i64 i)]) (fun kk s1 hI=>?_) z.yrs.toNat _ ⟨0,by omega,hY.symm,.c4 rfl rfl rfl rfl (.nil rfl)⟩
 obtain⟨i,hkk,hst,hs⟩:=hI
 by_cases hin:i<z.yrs.toNat
 ·have hv:=hm.v k i
  have hfb:=(h.at hk).2.1
  have hft:=fil_top h.f (fun x hx=>(h.ff x hx).2.2) k i
  have hgw:grwS z k i=zBT ky.rt (filS z.files k i (0,0)):=by unfold grwS;rw[hkz]
  have hsn:spsU ((List.range (i+1)).map (grwS z k))=spsU ((List.range i).map (grwS z k))++[spU (grwS z k i)]:=by
   unfold spsU
   rw[List.range_succ,List.map_append,List.map_append];rfl
  have hL:(spsU ((List.range i).map (grwS z k))).length≤40:=by simp;omega
  have hkyu:(kysU z.keys)[k]? =some ky.u:=by rw[List.getElem?_map,hky];rfl
  rw[hkz]at hfb
  rw[hgw]at hsn
  generalize spsU ((List.range i).map (grwS z k))=L at*
  generalize filS z.files k i (0,0)=s at*
  obtain⟨s1',s2'⟩:=s
  unfold zCF at hfb
  have q1:=ret103 (orc:=orc) hi ky.rt.1 ky.rt.2 s1' s2' (by unfold I64;simp only at hft;omega) (by unfold I64;simp only at hft;omega)
  refine zL _ _ hs hst fun fr3=>?_
  refine kQ (kp rfl (zA (k_seq (k_cT rfl (kF (by omega)) (zV (k_seq (zR (kQ (zD rfl (zE rfl (zA (wM [.plain,.plain,.plain,.plain,.read true,.plain,.read true,.plain,.plain,.read true,.plain,.plain,.read true,.plain,.read true,.plain,.plain,.read true,.plain,.plain,.plain,.plain] (by kernel_rfl) (by kernel_rfl) (by kernel_rfl) ?_))))))))))))
  refine zC (zD rfl (zA rfl)) (zC (kw rfl zCX (zA rfl)) ?_)
  refine zC (kw rfl zAV (zA rfl)) ?_
  refine zC (kw rfl yT (zA rfl)) ?_
  refine zJ rfl (zI rfl rfl yA sh22 rfl (zA rfl)) ?_
  refine zC (kw rfl zGD (zA rfl)) ?_
  refine zJ rfl (zI rfl rfl yA sh3 rfl (zA rfl)) ?_
  refine zC (wb (u:=ky.u) rfl ty22 rfl rfl (Int.natCast_nonneg _) hkyu cl62 (zA rfl)) ?_
  refine zC (o_faddrR rfl rfl fld62_1 (zA rfl)) ?_
  refine zJ rfl (yL rfl rfl sh35 rfl (zA rfl)) ?_
  refine zC (kw rfl zCX (zA rfl)) ?_
  refine zC (kw rfl fld83_1 (zA rfl)) ?_
  refine zJ rfl (zI rfl rfl yA sh80 rfl (zA rfl)) ?_
  refine zC (kw rfl zGD (zA rfl)) ?_
  refine zJ rfl (zI rfl rfl yA sh3 rfl (zA rfl)) ?_
  refine zC (zD rfl (zA rfl)) (zC (zZ rfl ze90 pl90 rfl rfl (zA rfl)) ?_)
  refine d_look (o_lookupE (key:=yQ k i) (kt:=90) (el:=35) (r:=spU (s1',s2')) (ok:=false) rfl ty80 rfl yB rfl (keyOk90 hm k i) zv35 rfl (fun m hm=>by cases hm;exact⟨_,rfl⟩) hv.symm (zA rfl)) ?_
  refine zC (zY rfl (q1) (.lrefl _) (zA rfl)) ?_
  refine zC (zEv (es:=[U.agg [.int .i64 (Prod.fst (Ky.rt ky)+s1'),.int .i64 (Prod.snd (Ky.rt ky)+s2')]]) rfl ty23 ze35 cl35 rfl rfl rfl rfl rfl rfl rfl rfl (zA rfl)) ?_
  refine zC (zAu 3 rfl ap23_23 rfl rfl rfl (by simp) (by simp) (by simp[yW,zx,oneU]) (by show(L.length+1)*_≤_;omega) (zA rfl)) ?_
  refine zC (zE rfl (zA rfl)) ?_
  refine zAK ?_
  refine k_region ?_
  refine kz rfl (by unfold I64;omega) (zD rfl (zA ?_))
  exact⟨kk - 1,by omega,i+1,by omega,rfl,.cons rfl (.cons (congrArg (U.lst .own 2) hsn.symm) (.n2 rfl))⟩
 ·obtain rfl:i=z.yrs.toNat:=by omega
  have hL:(spsU ((List.range z.yrs.toNat).map (grwS z k))).length=z.yrs.toNat:=by simp
  have hD:=dat_spsF ((List.range z.yrs.toNat).map (grwS z k)) 0
  generalize spsU ((List.range z.yrs.toNat).map (grwS z k))=L at*
  refine zL _ _ hs hst fun fr3=>?_
  refine kQ (kp rfl (zA (k_seq (k_cF rfl (kG (by omega)) (yj (kQ (zD rfl (zD rfl (zz rfl ty23 rfl rfl ?_)))))))))
  refine zD rfl (zz rfl ty23 rfl rfl ?_)
  refine o_slice0 rfl ty23 cl35 rfl (by simp) rfl rfl (Nat.le_refl _) ?_
  refine zE rfl (zA (zw ?_))
  refine⟨.inr rfl,_,.cons _ _ _ _ (.tmp 2) .nil,?_⟩
  refine⟨.lst .full 2 L,(by show UW (.u (.lst .full 2 (L.take L.length))) _;rw[List.take_length];exact .refl _),hD.bd _,?_,?_,rfl,?_⟩
  ·show st.length≤Y.length
   rw[hY];simp
  ·show ∀x∈Y.take st.length,_
   rw[hY,zBH rfl];exact hb
  ·show Y.take st.length=_
   rw[hY,zBH rfl]
end Go.Proofs.YtpckmojdekdbbaaGreat.settles
