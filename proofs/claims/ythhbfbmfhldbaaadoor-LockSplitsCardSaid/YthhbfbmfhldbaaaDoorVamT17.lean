import Derived.Test.YthhbfbmfhldbaaaDoorVamT16
set_option linter.unusedVariables false
set_option linter.unusedSimpArgs false
set_option linter.constructorNameAsVariable false
namespace Go.Proofs.YthhbfbmfhldbaaaDoor.locks
open Vam
variable {is:FuncId→Bool}{orc:Known}{l:Ln}
theorem sh127:shOf Tryd.prog 127=.one:=by kernel_rfl
theorem sh142:shOf Tryd.prog 142=.one:=by kernel_rfl
noncomputable def b111:Code:=(Tryd.f111.body).getD .skip
theorem body111:bodyOf Tryd.prog 111=some (62,b111,[.tmp 8]):=by kernel_rfl
theorem pure111:pureFn Tryd.prog 111=false:=by kernel_rfl
theorem zCv(S:List Bool):(zK S).all oneU=true:=by
 rw[List.all_eq_true]
 intro c hc
 obtain⟨b,_,rfl⟩:=List.mem_map.1 hc
 rfl
abbrev spB(p:List Int):List Bool:=b16 (plF p 0)++b16 (plF p 1)
abbrev spE(p:List Int):U:=.agg (zK (spB p))
theorem wd(p:List Int):(zK (spB p)).length=32:=by
 unfold zK spB
 rw[List.length_map,List.length_append,zl,zl]
theorem up_here(p:List Int){w:Int}(hw:w≠ -1):upF (plF p w) p.length true=plF (p++[w]) w:=by
 funext k
 unfold upF plF
 by_cases c:k=p.length
 ·rw[if_pos c,c,at_end];exact(kF rfl).symm
 ·rw[if_neg c]
  by_cases c2:k<p.length
  ·rw[at_bef _ c2]
  ·rw[zEc (by omega),zEc (by rw[List.length_append];show p.length+1≤k;omega)]
theorem up_oth(p:List Int){w v:Int}(hv:v≠ -1)(hw:w≠v):plF (p++[w]) v=plF p v:=by
 funext k
 unfold plF
 by_cases c2:k<p.length
 ·rw[at_bef _ c2]
 ·have h1:at' p k= -1:=zEc (by omega)
  have h2:at' (p++[w]) k≠v:=by
   by_cases c:k=p.length
   ·rw[c,at_end];exact hw
   ·rw[zEc (p:=p++[w]) (by rw[List.length_append];show p.length+1≤k;omega)];exact fun e=>hv e.symm
  rw[h1,kG h2,kG (fun e=>hv e.symm)]
theorem spB_no(p:List Int):spB (p++[-1])=spB p:=by
 unfold spB
 rw[up_oth p (by decide) (by decide),up_oth p (by decide) (by decide)]
theorem spB_set(p:List Int){j:Nat}(hj:j<2)(hp:p.length<16):(zK (spB p)).set (0+((j:Nat):Int).toNat*16+((p.length:Nat):Int).toNat*1) (.bool true)=zK (spB (p++[(j:Int)])):=by
 rw[zFI]
 have hj2:j=0∨j=1:=by omega
 rcases hj2 with rfl|rfl
 ·rw[show 0+((0:Nat):Int).toNat*16+((p.length:Nat):Int).toNat*1=p.length by simp,set0 hp]
  show zK (b16 (upF (plF p 0) p.length true)++b16 (plF p 1))=zK (b16 (plF (p++[(0:Int)]) 0)++b16 (plF (p++[(0:Int)]) 1))
  rw[up_here p (w:=0) (by decide),up_oth p (w:=0) (v:=1) (by decide) (by decide)]
 ·rw[show 0+((1:Nat):Int).toNat*16+((p.length:Nat):Int).toNat*1=16+p.length by simp,set1]
  show zK (b16 (plF p 0)++b16 (upF (plF p 1) p.length true))=zK (b16 (plF (p++[(1:Int)]) 0)++b16 (plF (p++[(1:Int)]) 1))
  rw[up_here p (w:=1) (by decide),up_oth p (w:=1) (v:=0) (by decide) (by decide)]
abbrev R3(l:Ln)(A N bi:Nat):List SB:=[.box [.yld A],.box [.fn 108 [l.u] [],.fn 109 [l.u] []],.box [.fn 111 [] [.box bi 0,.box N 0,.box (N+2) 0,.box (N+1) 0]]]
variable {N A:Nat}{lp:Lp}{I D:List (List Int)→List SB→Prop}{els:List (List Int)}
def outF(I D:List (List Int)→List SB→Prop)(els m ps:List (List Int))(e:List SB)(u:U)(st':List SB):Prop:=
 ∃Z' e',st'=Z'++(e++e')∧((u=.bool true∧I (m++ps) Z')∨(u=.bool false∧∃a r,els=a++r∧D a Z'))
def ptS(l:Ln)(k:Nat)(p:List Int)(j:Nat):List (List Int):=(List.range j).flatMap fun w:Nat=>if okP l (p++[(w:Int)]) w=true then spl l k (p++[(w:Int)])else []
theorem zEv(l:Ln)(k:Nat)(p:List Int)(j:Nat):ptS l k p (j+1)=ptS l k p j++if okP l (p++[(j:Int)]) j=true then spl l k (p++[(j:Int)])else []:=by
 unfold ptS
 rw[List.range_succ,List.flatMap_append]
 simp
theorem ptS_two(l:Ln)(k:Nat)(p:List Int)(h:at' l.slots p.length≠ -1):spl l (k+1) p=ptS l k p 2:=by
 rw[zEv,zEv]
 show(if at' l.slots p.length= -1 then spl l k (p++[-1])else _)=([]++_)++_
 rw[if_neg h,List.nil_append];rfl
theorem ptS_pre(l:Ln)(k:Nat)(p:List Int)(j i:Nat)(h:j≤i):∃r,ptS l k p i=ptS l k p j++r:=by
 induction i with
 | zero => obtain rfl : j = 0 := by omega
           exact⟨[],by rw[List.append_nil]⟩
 |succ i ih=>
  by_cases c:j=i+1
  ·rw[c];exact⟨[],by rw[List.append_nil]⟩
  ·obtain⟨r,hr⟩:=ih (by omega)
   rw[zEv,hr];exact⟨_,by rw[List.append_assoc]⟩
set_option maxHeartbeats 16000000 in
theorem wpc111(hi:Off is)(h:VL l)(hc:CnsF spE N A lp I D els){bi:Nat}(hbi:∀m Z,I m Z→Z[bi]? =some (.box l.cs)):∀(k:Nat) (p:List Int) (m:List (List Int)) (Z e:List SB),p.length+k=l.slots.length→I m Z→(∃r,els=m++(spl l k p++r))→(∀(i:Nat) (x:SB),(R3 l A N bi)[i]? =some x→e[i]? =some x)→
  WpC Tryd.prog is orc 111 [spE p,.int .i64 p.length,.box bi 0,.box N 0,.box (N+2) 0,.box (N+1) 0] (Z++e) fun u st'=>outF I D els m (spl l k p) e u st':=by
 have hn:=h.n
 intro k
 induction k with
 |zero=>
  intro p m Z e hpr hI hels he
  have hX:=hc.len m Z hI
  have hl:=wd p
  obtain⟨r,hels⟩:=hels
  have hels:els=m++p::r:=hels
  obtain⟨pp,hp1,hp2⟩:=hc.ps
  have hBd:=zBU (spB p)
  obtain⟨B,hB⟩:∃B,B=zK (spB p):=⟨_,rfl⟩
  have hr:=hc.run is orc hi m p r Z (e++[.box B]) hels hI
  unfold spE at hr ⊢
  rw[←hB]at hr hl hBd ⊢
  have y0:((Z++e)++[SB.box B])[bi]? =some (.box l.cs):=zAF (zAF (hbi m Z hI))
  have y2:((Z++e)++[SB.box B])[N]? =some (.box [.yld A]):=zAF (at_len (i:=0) hX (he 0 _ rfl))
  refine wpc_of body111 pure111 rfl rfl ?_
  refine kQ (zk rfl rfl (zA rfl (zB ?_)))
  refine zH [(1,.int .i64 ↑(List.length p)),(2,U.box bi 0),(3,U.box N 0),(4,U.box (N+2) 0),(5,U.box (N+1) 0),(6,U.box (List.length (Z++e)) 0)] (Z++e++[SB.box (List.map dg (zZ (zP (initF (List.map dg [U.agg B,.int .i64 ↑(List.length p),U.box bi 0,U.box N 0,U.box (N+2) 0,U.box (N+1) 0]) (Z++e)) (Go.Operand.tmp 0))))]) (.n6 rfl) rfl fun fr=>?_
  refine k_scope (k_seq (zI ?_))
  refine zH [(1,.int .i64 p.length),(2,.box bi 0),(3,.box N 0),(4,.box (N+2) 0),(5,.box (N+1) 0),(6,.box (Z++e).length 0)] ((Z++e)++[.box B]) (.n6 rfl) (by first|(show(Z++e)++[SB.box (List.map dg B)]=_;rw[hBd])|(show(Z++e)++[SB.box (List.map dg (List.map dg (List.map dg B)))]=_;rw[hBd,hBd,hBd])|(show(Z++e)++[SB.box (List.map dg (dgs B))]=_;rw[hBd,hBd])) fun fr=>?_
  refine kQ (zC rfl (kw rfl yR (kw rfl zS (zx rfl rfl y0 sh22 rfl ?_))))
  refine zq rfl ty22 rfl (List.length_map _) ?_
  refine ks rfl (zA rfl (zB (k_cT rfl (kF (by omega)) (kQ (zx rfl rfl y2 sh127 rfl ?_)))))
  refine yn rfl rfl (wI _ _) sh85 hl ?_
  refine o_yield (a:=A) rfl rfl (zAF (zAF (hc.bl m Z hI))) hc.own (by rw[hp1];simp[hp2]) (by rw[hp1];rfl) (.lrefl _) (by rw[List.append_assoc];exact hr) (fun u st1 hM=>?_)
  obtain⟨Z',e',rfl,⟨rfl,hI2⟩|⟨rfl,hD2⟩⟩:=hM
  ·refine zA rfl ?_
   refine zB (zV ?_)
   exact⟨(fun l h=>by cases h),.inr rfl,_,.cons _ _ _ _ (.tmp 8) .nil,_,.refl _,Z',[SB.box B]++e',(by show Z'++_=_;simp),.inl ⟨rfl,hI2⟩⟩
  ·refine zA rfl ?_
   refine zB (zV ?_)
   exact⟨(fun l h=>by cases h),.inr rfl,_,.cons _ _ _ _ (.tmp 8) .nil,_,.refl _,Z',[SB.box B]++e',(by show Z'++_=_;simp),.inr ⟨rfl,_,r,by rw[hels];simp,hD2⟩⟩
 |succ k ih=>
  intro p m Z e hpr hI hels he
  have hX:=hc.len m Z hI
  have hl:=wd p
  have hBd:=zBU (spB p)
  obtain⟨t,hx,ha,ht⟩:=h.at (show p.length<l.slots.length by omega)
  obtain⟨e1,he1⟩:∃e1,e1=e++[SB.box (zK (spB p))]:=⟨_,rfl⟩
  have hee:∀(i:Nat) (x:SB),(R3 l A N bi)[i]? =some x→e1[i]? =some x:=fun i x hx=>by rw[he1];exact zAF (he i x hx)
  have y0:∀m Z E,I m Z→(Z++(e1++E))[bi]? =some (.box l.cs):=fun m Z E hI=>zAF (hbi m Z hI)
  have y1:∀m Z E,I m Z→(Z++(e1++E))[N+1]? =some (.box [.fn 108 [l.u] [],.fn 109 [l.u] []]):=fun m Z E hI=>at_len (hc.len m Z hI) (zAF (hee 1 _ rfl))
  have y2:∀m Z E,I m Z→(Z++(e1++E))[N+2]? =some (.box [.fn 111 [] [.box bi 0,.box N 0,.box (N+2) 0,.box (N+1) 0]]):=fun m Z E hI=>at_len (hc.len m Z hI) (zAF (hee 2 _ rfl))
  have y6:∀m Z E,I m Z→(Z++(e1++E))[N+e.length]? =some (.box (zK (spB p))):=fun m Z E hI=>at_len (hc.len m Z hI) (zAF (by rw[he1];exact wI _ _))
  have e0:(Z++e)++[SB.box (zK (spB p))]=Z++(e1++[]):=by rw[he1,List.append_nil,List.append_assoc]
  have hpos:(Z++e).length=N+e.length:=by rw[List.length_append,hX]
  refine wpc_of body111 pure111 rfl rfl ?_
  refine kQ (zk rfl rfl (zA rfl (zB ?_)))
  refine zH [(1,.int .i64 ↑(List.length p)),(2,U.box bi 0),(3,U.box N 0),(4,U.box (N+2) 0),(5,U.box (N+1) 0),(6,U.box (List.length (Z++e)) 0)] (Z++e++[SB.box [U.bool (plF p (0:Int) (nat_lit 0)),U.bool (plF p (0:Int) (nat_lit 1)),U.bool (plF p (0:Int) (nat_lit 2)),U.bool (plF p (0:Int) (nat_lit 3)),U.bool (plF p (0:Int) (nat_lit 4)),U.bool (plF p (0:Int) (nat_lit 5)),U.bool (plF p (0:Int) (nat_lit 6)),U.bool (plF p (0:Int) (nat_lit 7)),U.bool (plF p (0:Int) (nat_lit 8)),U.bool (plF p (0:Int) (nat_lit 9)),U.bool (plF p (0:Int) (nat_lit 10)),U.bool (plF p (0:Int) (nat_lit 11)),U.bool (plF p (0:Int) (nat_lit 12)),U.bool (plF p (0:Int) (nat_lit 13)),U.bool (plF p (0:Int) (nat_lit 14)),U.bool (plF p (0:Int) (nat_lit 15)),U.bool (plF p (1:Int) (nat_lit 0)),U.bool (plF p (1:Int) (nat_lit 1)),U.bool (plF p (1:Int) (nat_lit 2)),U.bool (plF p (1:Int) (nat_lit 3)),U.bool (plF p (1:Int) (nat_lit 4)),U.bool (plF p (1:Int) (nat_lit 5)),U.bool (plF p (1:Int) (nat_lit 6)),U.bool (plF p (1:Int) (nat_lit 7)),U.bool (plF p (1:Int) (nat_lit 8)),U.bool (plF p (1:Int) (nat_lit 9)),U.bool (plF p (1:Int) (nat_lit 10)),U.bool (plF p (1:Int) (nat_lit 11)),U.bool (plF p (1:Int) (nat_lit 12)),U.bool (plF p (1:Int) (nat_lit 13)),U.bool (plF p (1:Int) (nat_lit 14)),U.bool (plF p (1:Int) (nat_lit 15))]]) (.n6 rfl) rfl fun fr=>?_
  refine k_scope (k_seq (zI ?_))
  refine zH [(1,.int .i64 p.length),(2,.box bi 0),(3,.box N 0),(4,.box (N+2) 0),(5,.box (N+1) 0),(6,.box (N+e.length) 0)] (Z++(e1++[])) (.c4 rfl rfl rfl rfl (.cons rfl (.cons (by show U.box (Z++e).length 0=_;rw[hpos]) (.nil rfl)))) (by
   rw[←e0]
   show(Z++e)++[SB.box (List.map dg (zK (spB p)))]=_;rw[hBd]) fun fr=>?_
  have z0:=y0 m Z [] hI
  have z2:=y2 m Z [] hI
  have z6:=y6 m Z [] hI
  by_cases c:t= -1
  ·have hsp:spl l (k+1) p=spl l k (p++[-1]):=by
    show(if at' l.slots p.length= -1 then spl l k (p++[-1])else _)=_
    rw[if_pos (by rw[ha];exact c)]
   rw[hsp]at hels ⊢
   have q111:=ih (p++[-1]) m Z (e1++[]) (by simp;omega) hI hels (fun i x hx=>zAF (hee i x hx))
   unfold spE at q111
   rw[spB_no,show(((p++[(-1:Int)]).length:Nat):Int)=(p.length:Int)+1 by simp]at q111
   refine kQ (zC rfl (kw rfl yR (kw rfl zS (zx rfl rfl z0 sh22 rfl ?_))))
   refine zq rfl ty22 rfl (List.length_map _) ?_
   refine ks rfl (zA rfl (zB (k_cF rfl (kG (by omega)) (kQ (kw rfl yR (kw rfl zS (zx rfl rfl z0 sh22 rfl ?_)))))))
   refine zC rfl (yA (u:=.int .i64 (t)) rfl ty22 rfl rfl (Int.natCast_nonneg _) (by simp[hx]) cl3 ?_)
   refine kC sh3 rfl ?_
   refine ks rfl (zA rfl (zB ?_))
   refine zH [(1,.int .i64 ↑(List.length p)),(4,U.box (N+2) 0),(5,U.box (N+1) 0),(6,U.box (N+List.length e) 0),(23,U.bool (decide (t=(-1:Int))))] (Z++(e1++[])) (.n5 rfl) rfl fun fr=>?_
   refine k_cT rfl (kF (by omega)) (kQ (zx rfl rfl z2 sh142 rfl ?_))
   refine yn rfl rfl z6 sh85 hl ?_
   refine zC rfl ?_
   refine kz rfl (by unfold I64;omega) ?_
   refine o_callV rfl rfl q111 (.lrefl _) (fun u st1 hM=>?_)
   obtain⟨Z',e',rfl,⟨rfl,hI2⟩|⟨rfl,a,r,hr,hD2⟩⟩:=hM
   ·refine zA rfl ?_
    refine zB (zV ?_)
    exact⟨(fun l h=>by cases h),.inr rfl,_,.cons _ _ _ _ (.tmp 8) .nil,_,.refl _,Z',[SB.box (zK (spB p))]++([]++e'),(by show Z'++_=_;rw[he1];simp),.inl ⟨rfl,hI2⟩⟩
   ·refine zA rfl ?_
    refine zB (zV ?_)
    exact⟨(fun l h=>by cases h),.inr rfl,_,.cons _ _ _ _ (.tmp 8) .nil,_,.refl _,Z',[SB.box (zK (spB p))]++([]++e'),(by show Z'++_=_;rw[he1];simp),.inr ⟨rfl,a,r,hr,hD2⟩⟩
  ·have hsp:=ptS_two l k p (by rw[ha];exact c)
   rw[hsp]at hels ⊢
   obtain⟨r0,hels⟩:=hels
   have hset:=fun j (hj:j<2)=>spB_set p (j:=j) hj (by have:=h.n;omega)
   have hone:=zCv (spB p)
   obtain⟨B,hB⟩:∃B,B=zK (spB p):=⟨_,rfl⟩
   have q108:=fun(q:List Int) (w:Int) (hw:w=0∨w=1)=>ret108 (orc:=orc) hi h (plF q 0) (plF q 1) hw (i:=p.length) (by omega)
   have q109:=fun(q:List Int) (w:Int) (hw:w=0∨w=1)=>ret109 (orc:=orc) hi h (plF q 0) (plF q 1) hw (slot:=p.length) (by omega)
   rw[ha]at q108
   rw[←hB]at hset y6 hl he1 z6 hone hBd
   refine kQ (zC rfl (kw rfl yR (kw rfl zS (zx rfl rfl z0 sh22 rfl ?_))))
   refine zq rfl ty22 rfl (List.length_map _) ?_
   refine ks rfl (zA rfl (zB (k_cF rfl (kG (by omega)) (kQ (kw rfl yR (kw rfl zS (zx rfl rfl z0 sh22 rfl ?_)))))))
   refine zC rfl (yA (u:=.int .i64 (t)) rfl ty22 rfl rfl (Int.natCast_nonneg _) (by simp[hx]) cl3 ?_)
   refine kC sh3 rfl ?_
   refine ks rfl (zA rfl (zB ?_))
   refine zH [(1,.int .i64 ↑(List.length p)),(4,U.box (N+2) 0),(5,U.box (N+1) 0),(6,U.box (N+List.length e) 0),(23,U.bool (decide (t=(-1:Int))))] (Z++(e1++[])) (.n5 rfl) rfl fun fr=>?_
   refine k_cF rfl (kG (by omega)) (zL (k_seq (k_label ?_)))
   refine k_seq (kQ (zC rfl (zB (zI ?_))))
   refine yX (fun kk s2=>∃(j:Nat) (Z2 e2:List SB),kk+j=2∧I (m++ptS l k p j) Z2∧s2.st=Z2++(e1++e2)∧Holds s2 [(1,.int .i64 p.length),(4,.box (N+2) 0),(5,.box (N+1) 0),(6,.box (N+e.length) 0),(36,.int .i64 j)]) (fun kk s2 hJ=>?_) 2 _ ⟨0,Z,[],rfl,(by show I (m++[]) Z;rw[List.append_nil];exact hI),rfl,.c4 rfl rfl rfl rfl (.n1 rfl)⟩
   obtain⟨j,Z2,e2,hk,hI2,hst2,hs2⟩:=hJ
   have x0:=y0 _ Z2 e2 hI2
   have x6:=y6 _ Z2 e2 hI2
   refine zH _ _ hs2 hst2 fun fr2=>?_
   by_cases hj:j<2
   ·have hX2:=hc.len _ _ hI2
    have hpos2:(Z2++(e1++e2)).length=N+(e1++e2).length:=by rw[List.length_append,hX2]
    have hbl:Nat.blt (0+((j:Nat):Int).toNat*16+((p.length:Nat):Int).toNat*1) B.length=true:=by rw[Nat.blt_eq,hl];simp;omega
    refine kQ (kp rfl (zB (k_seq (k_cT rfl (kF (by omega)) (zL (k_seq (zI (kQ (zC rfl (zA rfl (zB (kQ (yn rfl rfl x6 sh85 hl ?_)))))))))))))
    refine yL rfl ze85 ?_
    refine zBE rfl (wI _ _) sh85 rfl hl rfl rfl hone hBd ?_
    refine zB ?_
    refine zH [(1,.int .i64 ↑(List.length p)),(4,U.box (N+2) 0),(5,U.box (N+1) 0),(6,U.box (N+List.length e) 0),(9,.int .i64 ↑j),(10,U.box (List.length (Z2++(e1++e2))) 0),(36,.int .i64 ↑j)] (Z2++(e1++e2)++[SB.box B]) (.n7 rfl) (zAJ _ _ _) fun fr=>?_
    refine kQ (zC rfl (zC rfl (yW rfl ty85 rfl rfl (by omega) (by omega) cl83 ?_)))
    refine yW rfl ty83 rfl rfl (by omega) (by omega) cl4 ?_
    refine wO rfl (wI _ _) sh4 hbl rfl ?_
    refine zB ?_
    refine zH [(1,.int .i64 ↑(List.length p)),(4,U.box (N+2) 0),(5,U.box (N+1) 0),(6,U.box (N+List.length e) 0),(9,.int .i64 ↑j),(10,U.box (List.length (Z2++(e1++e2))) 0),(36,.int .i64 ↑j)] (Z2++(e1++e2)++[SB.box (List.set B (0+Int.toNat ↑j*16+Int.toNat ↑(List.length p)*1) (.bool true))]) (.n7 rfl) (zAJ _ _ _) fun fr=>?_
    have hsj:=hset j hj
    have hlj:=wd (p++[(j:Int)])
    have hok:okP l (p++[(j:Int)]) j=(zDp l j t&&zCI (rF (plF (p++[(j:Int)]) 0) (plF (p++[(j:Int)]) 1) j l.slots.length) l.run.toNat p.length):=by
     unfold okP
     rw[show(p++[(j:Int)]).length - 1=p.length by simp,ha]
    have hsu:=zEv l k p j
    have q108:=q108 (p++[(j:Int)]) j (by omega)
    have q109:=q109 (p++[(j:Int)]) j (by omega)
    have hp2:=ptS_pre l k p (j+1) 2 (by omega)
    have q111:=fun Z3 e3 hI3 hh=>ih (p++[(j:Int)]) (m++ptS l k p j) Z3 (e1++e3) (by simp;omega) hI3 hh (fun i x hx=>zAF (hee i x hx))
    rw[show(((p++[(j:Int)]).length:Nat):Int)=(p.length:Int)+1 by simp]at q111
    obtain⟨e3,he3⟩:∃e3,e3=e2++[SB.box (zK (spB (p++[(j:Int)])))]:=⟨_,rfl⟩
    have hst3:(Z2++(e1++e2))++[SB.box (zK (spB (p++[(j:Int)])))]=Z2++(e1++e3):=by rw[he3];simp
    unfold spE at q111
    obtain⟨C,hC⟩:∃C,C=zK (spB (p++[(j:Int)])):=⟨_,rfl⟩
    rw[←hC]at hsj hlj q111 hst3
    have q108:RetP Tryd.prog is orc 108 [l.u,.agg C,.int .i64 j,.int .i64 p.length] (.bool (zDp l j t)):=by rw[hC];exact q108
    have q109:RetP Tryd.prog is orc 109 [l.u,.agg C,.int .i64 j,.int .i64 p.length] (.bool (zCI (rF (plF (p++[(j:Int)]) 0) (plF (p++[(j:Int)]) 1) j l.slots.length) l.run.toNat p.length)):=by rw[hC];exact q109
    have w10:(Z2++(e1++e3))[(Z2++(e1++e2)).length]? =some (.box C):=by rw[←hst3];exact wI _ _
    have w1:=y1 _ Z2 e3 hI2
    have w2:=y2 _ Z2 e3 hI2
    refine zH [(1,.int .i64 p.length),(4,.box (N+2) 0),(5,.box (N+1) 0),(6,.box (N+e.length) 0),(9,.int .i64 j),(10,.box (Z2++(e1++e2)).length 0),(36,.int .i64 j)] (Z2++(e1++e3)) (.n7 rfl) (by
     show Z2++(e1++e2)++[SB.box (B.set (0+((j:Nat):Int).toNat*16+((p.length:Nat):Int).toNat*1) (.bool true))]=_
     rw[hsj];exact hst3) fun fr4=>?_
    clear hst3 hsj hset hone hBd
    generalize (Z2++(e1++e2)).length=M2 at*
    generalize zDp l j t=z1 at*
    generalize zCI (rF (plF (p++[(j:Int)]) 0) (plF (p++[(j:Int)]) 1) j l.slots.length) l.run.toNat p.length=z2 at*
    refine k_seq (kQ (zDx rfl rfl w1 sh118 rfl ?_))
    refine zC rfl (zB (zI ?_))
    refine yX (fun mm s3=>∃i:Nat,mm+i=2∧(1≤i→z1=true)∧(2≤i→z2=true)∧s3.st=Z2++(e1++e3)∧Holds s3 [(1,.int .i64 p.length),(4,.box (N+2) 0),(5,.box (N+1) 0),(6,.box (N+e.length) 0),(9,.int .i64 j),(10,.box M2 0),(36,.int .i64 j),(44,.agg [.fn 108 [l.u] [],.fn 109 [l.u] []]),(45,.int .i64 i)]) (fun mm s3 hJ=>?_) 2 _ ⟨0,rfl,(fun e=>by omega),(fun e=>by omega),rfl,.c4 rfl rfl rfl rfl (.n5 rfl)⟩
    obtain⟨i,hm,hz1,hz2,hst4,hs4⟩:=hJ
    refine zH _ _ hs4 hst4 fun fr5=>?_
    have hi3:i=0∨i=1∨i=2:=by omega
    rcases hi3 with rfl|rfl|rfl
    ·cases z1 with
     |false=>
      rw[hok,Bool.false_and,if_neg (by decide),List.append_nil]at hsu
      refine kQ (kp rfl (zB (k_seq (k_cT rfl rfl ?_))))
      refine zL (k_seq (zI (kQ (wX rfl ty118 rfl rfl (by omega) (by omega) cl117 sh117 rfl ?_))))
      refine zA rfl (zB (kQ (zC rfl (yn rfl rfl w10 sh85 hlj ?_))))
      refine zC rfl (zC rfl (wb rfl rfl q108 (.lrefl _) ?_))
      refine yc rfl rfl (zB (k_cT rfl rfl ?_))
      refine zj (k_region ?_)
      refine kz rfl (by unfold I64;omega) (zC rfl (zB ?_))
      exact⟨kk - 1,by omega,j+1,Z2,e3,by omega,(by rw[hsu];exact hI2),rfl,.c4 rfl rfl rfl rfl (.n1 rfl)⟩
     |true=>
      refine kQ (kp rfl (zB (k_seq (k_cT rfl rfl ?_))))
      refine zL (k_seq (zI (kQ (wX rfl ty118 rfl rfl (by omega) (by omega) cl117 sh117 rfl ?_))))
      refine zA rfl (zB (kQ (zC rfl (yn rfl rfl w10 sh85 hlj ?_))))
      refine zC rfl (zC rfl (wb rfl rfl q108 (.lrefl _) ?_))
      refine yc rfl rfl (zB (k_cF rfl rfl ?_))
      refine zL (k_region ?_)
      refine kz rfl (by unfold I64;omega) (zC rfl (zB ?_))
      exact⟨mm - 1,by omega,1,by omega,(fun _=>rfl),(fun e=>by omega),rfl,.c4 rfl rfl rfl rfl (.n5 rfl)⟩
    ·cases z2 with
     |false=>
      rw[hok,Bool.and_false,if_neg (by decide),List.append_nil]at hsu
      refine kQ (kp rfl (zB (k_seq (k_cT rfl rfl ?_))))
      refine zL (k_seq (zI (kQ (wX rfl ty118 rfl rfl (by omega) (by omega) cl117 sh117 rfl ?_))))
      refine zA rfl (zB (kQ (zC rfl (yn rfl rfl w10 sh85 hlj ?_))))
      refine zC rfl (zC rfl (wb rfl rfl q109 (.lrefl _) ?_))
      refine yc rfl rfl (zB (k_cT rfl rfl ?_))
      refine zj (k_region ?_)
      refine kz rfl (by unfold I64;omega) (zC rfl (zB ?_))
      exact⟨kk - 1,by omega,j+1,Z2,e3,by omega,(by rw[hsu];exact hI2),rfl,.c4 rfl rfl rfl rfl (.n1 rfl)⟩
     |true=>
      refine kQ (kp rfl (zB (k_seq (k_cT rfl rfl ?_))))
      refine zL (k_seq (zI (kQ (wX rfl ty118 rfl rfl (by omega) (by omega) cl117 sh117 rfl ?_))))
      refine zA rfl (zB (kQ (zC rfl (yn rfl rfl w10 sh85 hlj ?_))))
      refine zC rfl (zC rfl (wb rfl rfl q109 (.lrefl _) ?_))
      refine yc rfl rfl (zB (k_cF rfl rfl ?_))
      refine zL (k_region ?_)
      refine kz rfl (by unfold I64;omega) (zC rfl (zB ?_))
      exact⟨mm - 1,by omega,2,by omega,(fun _=>hz1 (by omega)),(fun _=>rfl),rfl,.c4 rfl rfl rfl rfl (.n5 rfl)⟩
    ·rw[hok,hz1 (by omega),hz2 (by omega),if_pos (by decide)]at hsu
     obtain⟨r1,hp2⟩:=hp2
     have q111:=q111 Z2 e3 hI2 ⟨r1++r0,by rw[hels,hp2,hsu];simp⟩
     generalize spl l k (p++[(j:Int)])=M at*
     refine kQ (kp rfl (zB (k_seq (k_cF rfl rfl ?_))))
     refine zj (kQ (zx rfl rfl w2 sh142 rfl ?_))
     refine yn rfl rfl w10 sh85 hlj ?_
     refine zC rfl ?_
     refine kz rfl (by unfold I64;omega) ?_
     refine o_callV rfl rfl q111 (.lrefl _) (fun u st1 hM=>?_)
     obtain⟨Z',e',rfl,⟨rfl,hI3⟩|⟨rfl,a,r,hr,hD2⟩⟩:=hM
     ·refine yc rfl rfl ?_
      refine zB (k_cF rfl rfl ?_)
      refine zL (k_region ?_)
      refine kz rfl (by unfold I64;omega) (zC rfl (zB ?_))
      exact⟨kk - 1,by omega,j+1,Z',e3++e',by omega,(by rw[hsu,←List.append_assoc];exact hI3),(by show Z'++_=_;simp),.c4 rfl rfl rfl rfl (.n1 rfl)⟩
     ·refine yc rfl rfl ?_
      refine zB (k_cT rfl rfl ?_)
      refine kQ (zA rfl (zB (zV ?_)))
      exact⟨(fun l h=>by cases h),.inr rfl,_,.cons _ _ _ _ (.tmp 8) .nil,_,.refl _,Z',[SB.box B]++(e3++e'),(by show Z'++_=_;rw[he1];simp),.inr ⟨rfl,a,r,hr,hD2⟩⟩
   ·have hj2:j=2:=by omega
    subst hj2
    refine kQ (kp rfl (zB (k_seq (k_cF rfl rfl ?_))))
    refine zj (kQ (zA rfl (zB (zV ?_))))
    exact⟨(fun l h=>by cases h),.inr rfl,_,.cons _ _ _ _ (.tmp 8) .nil,_,.refl _,Z2,[SB.box B]++e2,(by show Z2++_=_;rw[he1];simp),.inl ⟨rfl,hI2⟩⟩
end Go.Proofs.YthhbfbmfhldbaaaDoor.locks
