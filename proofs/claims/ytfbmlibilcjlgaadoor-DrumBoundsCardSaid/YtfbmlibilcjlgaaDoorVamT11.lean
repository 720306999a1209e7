import Derived.Test.YtfbmlibilcjlgaaDoorVamT10
set_option linter.unusedVariables false
set_option linter.unusedSimpArgs false
set_option linter.constructorNameAsVariable false
namespace Go.Proofs.YtfbmlibilcjlgaaDoor.drumBounds
open Vam
section
variable {is:FuncId→Bool}{orc:Known}
theorem sh81:shOf Tryd.prog 81=.one:=by kernel_rfl
theorem ap94_94:AppT Tryd.prog 94 94 3 1 8 ((.cons (.int .i64 0) .nil):V):=⟨ty94,⟨_,ty94⟩,cl3,by decide,by3,ze3,rfl⟩
noncomputable def b123:Code:=(Tryd.f123.body).getD .skip
theorem body123:bodyOf Tryd.prog 123=some (47,b123,[.tmp 6]):=by kernel_rfl
theorem pure123:pureFn Tryd.prog 123=false:=by kernel_rfl
theorem Bd.mono{n m:Nat}{u:U}(h:Bd n u)(hm:n≤m):Bd m u:=fun φ S v hv=>(h φ S v hv).mono (fun a b e=>BMap.cut_of (by have:=(BMap.cut_some e).1;omega) (BMap.cut_some e).2) S.le_refl
theorem BdS.mono{n m:Nat}{x:SB}(h:BdS n x)(hm:n≤m):BdS m x:=by
 cases x with
 |box cs=>exact fun c hc=>Bd.mono (h c hc) hm
 |froz cs=>exact fun c hc=>Bd.mono (h c hc) hm
 |map es=>exact fun p hp=>⟨Bd.mono (h p hp).1 hm,Bd.mono (h p hp).2 hm⟩
 |loop q l=>exact fun i=>Bd.mono (h i) hm
 |dead=>trivial
structure Cns(N A:Nat)(lp:Lp)(stop:List Int→Bool)(X:List (List Int)→List SB)(D:List SB)(elt:List Int→Prop):Prop where
 len:∀l,(X l).length=N
 lenD:D.length=N
 bd:∀l,∀x∈X l,BdS N x
 bdD:∀x∈D,BdS N x
 bl:∀l,(X l)[A]? =some (.loop .ready lp)
 own:∀i,NoOwn (lp.fr i)
 ps:∃p,lp.ps=[p]∧Nat.blt p 1024=true
 run:∀(is:FuncId→Bool) (orc:Known),Off is→∀l q e,elt q→WpY Tryd.prog is orc A lp [.lst .ro 1 (zG q)] (X l++e) fun u st'=>
  (stop q=false∧u=.bool true∧∃e',st'=X (l++[q])++(e++e'))∨(stop q=true∧u=.bool false∧∃e',st'=D++(e++e'))
structure Pre(b:Bk)(p:List Int):Prop where
 rg:∀x∈p,0≤x∧x≤3
 st:∀x,p[0]? =some x→x=b.start
 nr:∀i x y,p[i]? =some x→p[i+1]? =some y→x - 1≤y∧y≤x+1
theorem Pre.pok{b:Bk}{p:List Int}(h:Pre b p)(hb:BOk b)(hl:(p.length:Int)=b.parts):POk b p:=by
 have:=hb.pa
 refine⟨hl,h.rg,?_,h.nr⟩
 have e:p[0]? =some (p[0]'(by omega)):=List.getElem?_eq_getElem (by omega)
 rw[e,h.st _ e]
def exB(b:Bk)(p:List Int)(d:Int):Bool:=(decide (0<p.length)||decide (d=b.start))&&(decide (p.length=0)||decide (zCe ((p[p.length - 1]?).getD 0) d≤1))
theorem Pre.snoc{b:Bk}{p:List Int}{d:Int}(h:Pre b p)(hd:0≤d∧d≤3)(he:exB b p d=true):Pre b (p++[d]):=by
 unfold exB at he
 rw[Bool.and_eq_true,Bool.or_eq_true,Bool.or_eq_true]at he
 obtain⟨h1,h2⟩:=he
 refine⟨fun x hx=>?_,fun x hx=>?_,fun i x y hx hy=>?_⟩
 ·rcases List.mem_append.1 hx with hx|hx
  ·exact h.rg x hx
  ·rcases List.mem_singleton.1 hx with rfl;exact hd
 ·cases p with
  |nil=>
   cases hx
   rcases h1 with h1|h1
   ·simp at h1
   ·exact of_decide_eq_true h1
  |cons q p=>exact h.st x hx
 ·have hl:i+1<p.length+1:=by have:=(List.getElem?_eq_some_iff.1 hy).1;simpa using this
  by_cases hi:i+1<p.length
  ·rw[List.getElem?_append_left (by omega)]at hx hy
   exact h.nr i x y hx hy
  ·have hil:i+1=p.length:=by omega
   rw[List.getElem?_append_left (by omega)]at hx
   rw[List.getElem?_append_right (by omega),hil,Nat.sub_self]at hy
   cases hy
   rcases h2 with h2|h2
   ·have:=of_decide_eq_true h2;omega
   ·have:=of_decide_eq_true h2
    rw[←hil,Nat.add_sub_cancel,hx]at this
    unfold zCe at this
    simp only[Option.getD_some]at this
    omega
theorem pre_nil(b:Bk):Pre b []:=⟨(fun _ h=>by cases h),(fun _ h=>by simp at h),(fun i x y h=>by simp at h)⟩
def lvP(b:Bk):Nat→List Int→List (List Int)
 |0,p=>[p]
 |r+1,p=>(List.range 4).flatMap fun d:Nat=>if exB b p d=true then lvP b r (p++[(d:Int)])else []
def ptP(b:Bk)(r:Nat)(p:List Int)(j:Nat):List (List Int):=(List.range j).flatMap fun d:Nat=>if exB b p d=true then lvP b r (p++[(d:Int)])else []
theorem zDJ(b:Bk)(r:Nat)(p:List Int)(j:Nat):ptP b r p (j+1)=ptP b r p j++if exB b p j=true then lvP b r (p++[(j:Int)])else []:=by
 unfold ptP
 rw[List.range_succ,List.flatMap_append]
 simp
theorem ptP_any{b:Bk}{r:Nat}{p:List Int}{j:Nat}{s:List Int→Bool}(hj:j<4)(he:exB b p j=true)(h:(lvP b r (p++[(j:Int)])).any s=true):(lvP b (r+1) p).any s=true:=by
 show((List.range 4).flatMap _).any s=true
 rw[List.any_flatMap,List.any_eq_true]
 exact⟨j,List.mem_range.2 hj,by rw[if_pos he];exact h⟩
theorem ret116g(hi:Off is){b:Bk}{l:List Int}{i:Nat}{x:Int}(hx:l[i]? =some x)(hl:l.length≤4096):RetP Tryd.prog is orc 116 [b.u,.lst .ro 1 (zG l),.int .i64 i] (.bool (decide (0<i)||decide (x=b.start))):=by
 refine zk body116 pure116 (hi 116 (by decide)) rfl rfl (fun u hu=>by
  simp only[List.mem_cons,List.not_mem_nil,or_false]at hu
  rcases hu with rfl|rfl|rfl
  ·exact yK b 4
  ·exact zr 6 .ro (fun h=>by cases h) 1 l
  ·exact .int _ _ _) (.inl (.bool _ _)) ?_
 have h1:=(List.getElem?_eq_some_iff.1 hx).1
 by_cases hz:i=0
 ·subst hz
  have q101:RetP Tryd.prog is orc 101 [.lst .ro 1 (zG l),.int .i64 0] (wB 0 x):=ret101 (orc:=orc) hi hx hl
  have eb:=spn_eq 0 x 0 b.start
  rw[decide_eq_true (rfl:(0:Int)=0),Bool.true_and]at eb
  rw[show decide (0<0)=false from rfl,Bool.false_or]
  generalize decide (x=b.start)=z at*
  refine kQ (zc rfl rfl (zB rfl (zA ?_)))
  refine zH [(1,.lst .ro 1 (zG l)),(2,.int .i64 ↑0),(3,U.box 0 0)] ([SB.box (Bk.cs b)]) (.cons rfl (.cons rfl (.cons rfl (.nil rfl)))) rfl fun fr=>?_
  refine k_seq (yL [.plain,.plain,.plain,.plain,.plain,.read false,.read true,.plain,.plain,.plain,.plain] (by kernel_rfl) (by kernel_rfl) (by kernel_rfl) ?_)
  refine zD (zC rfl (zA rfl)) (zD (zBj rfl rfl rfl (zA rfl)) ?_)
  refine zD (zC rfl (zA rfl)) (d_gD rfl rfl rfl rfl rfl (zD (zC rfl (zA rfl)) (d_gD rfl rfl rfl rfl rfl (zD (zC rfl (zA rfl)) (d_gD rfl rfl rfl rfl rfl (zBQ rfl (q101) (zCz _ _) (.lrefl _) ?_))))))
  refine d_gD rfl rfl rfl rfl rfl (zR rfl (zJ rfl rfl rfl sh75 rfl (zA rfl)) ?_)
  refine d_gD rfl rfl rfl rfl rfl (zD (zP rfl (ret128 hi b) (.lrefl _) (zA rfl)) ?_)
  refine d_gD rfl rfl rfl rfl rfl (zD (zHD rfl rfl rfl rfl rfl eb (zA rfl)) ?_)
  refine zD (zN rfl rfl rfl (zA rfl)) ?_
  refine zD (zB rfl (zA rfl)) ?_
  refine yw ?_
  refine zU ?_
  refine⟨.inr rfl,_,.cons _ _ _ _ (.tmp 6) .nil,?_⟩
  exact .refl _
 ·rw[decide_eq_true (show 0<i by omega),Bool.true_or]
  refine kQ (zc rfl rfl (zB rfl (zA ?_)))
  refine zH [(1,.lst .ro 1 (zG l)),(2,.int .i64 ↑i),(3,U.box 0 0)] ([SB.box (Bk.cs b)]) (.cons rfl (.cons rfl (.cons rfl (.nil rfl)))) rfl fun fr=>?_
  refine k_seq (yL [.plain,.plain,.plain,.plain,.plain,.read false,.read true,.plain,.plain,.plain,.plain] (by kernel_rfl) (by kernel_rfl) (by kernel_rfl) ?_)
  refine zD (zC rfl (zA rfl)) (zD (zBj rfl rfl rfl (zA rfl)) ?_)
  refine zD (zC rfl (zA rfl)) (d_gS rfl rfl rfl rfl (decide_eq_true (by omega)) ?_)
  refine d_gS rfl rfl rfl rfl (decide_eq_true (by omega)) ?_
  refine d_gS rfl rfl rfl rfl (decide_eq_true (by omega)) ?_
  refine d_gS rfl rfl rfl rfl (decide_eq_true (by omega)) ?_
  refine d_gS rfl rfl rfl rfl (decide_eq_true (by omega)) ?_
  refine d_gS rfl rfl rfl rfl (decide_eq_true (by omega)) ?_
  refine zD (za rfl rfl (decide_eq_true (by omega)) (zA rfl)) ?_
  refine zD (zB rfl (zA rfl)) ?_
  refine yw ?_
  refine zU ?_
  refine⟨.inr rfl,_,.cons _ _ _ _ (.tmp 6) .nil,?_⟩
  exact .refl _
variable {N A:Nat}{lp:Lp}{stop:List Int→Bool}{X:List (List Int)→List SB}{D:List SB}{b:Bk}
abbrev rulC(b:Bk):List U:=[U.fn 115 [] [],U.fn 116 [b.u] [],U.fn 117 [] []]
abbrev R3(b:Bk)(A N bi k:Nat):List SB:=[.box [.yld A],.box (rulC b),.box [.fn 123 [] [.box bi 0,.box (N+k) 0,.box (N+k+1) 0,.box (N+k+2) 0]]]
def outP(stop:List Int→Bool)(X:List (List Int)→List SB)(D:List SB)(l:List (List Int))(e:List SB)(ps:List (List Int))(u:U)(st':List SB):Prop:=
 ∃e',(ps.any stop=false∧u=.bool true∧st'=X (l++ps)++(e++e'))∨(ps.any stop=true∧u=.bool false∧st'=D++(e++e'))
theorem zBe{P Q:List SB}{n i:Nat}{x:SB}(h:P.length=n)(hx:Q[i]? =some x):(P++Q)[n+i]? =some x:=by
 rw[List.getElem?_append_right (by omega),h,Nat.add_sub_cancel_left];exact hx
set_option maxHeartbeats 16000000 in
theorem wpc123(hi:Off is)(hb:BOk b)(hc:Cns N A lp stop X D (POk b)){bi k:Nat}(hbi:∀l,(X l)[bi]? =some (.box (Bk.cs b))):∀(r:Nat) (p:List Int) (l:List (List Int)) (e:List SB),((p.length+r:Nat):Int)=b.parts→Pre b p→(∀i x,(R3 b A N bi k)[i]? =some x→e[k+i]? =some x)→
  WpC Tryd.prog is orc 123 [.lst .ro 1 (zG p),.box bi 0,.box (N+k) 0,.box (N+k+1) 0,.box (N+k+2) 0] (X l++e) fun u st'=>outP stop X D l e (lvP b r p) u st':=by
 have hpa:=hb.pa
 intro r
 induction r with
 |zero=>
  intro p l e hpr hpre he
  have hX:=hc.len l
  have y0:(X l++e)[bi]? =some (.box (Bk.cs b)):=zo (hbi l)
  have y2:(X l++e)[N+k]? =some (.box [.yld A]):=zBe hX (he 0 _ rfl)
  have hpk:=hpre.pok hb (by simpa using hpr)
  obtain⟨pp,hp1,hp2⟩:=hc.ps
  refine zAW body123 pure123 rfl rfl ?_
  refine kQ (zB rfl (zA (k_scope (kQ (zC rfl (yF rfl ty94 rfl (List.length_map _) ?_))))))
  refine zB rfl (zA (k_seq (kQ (zC rfl (zE rfl rfl yB (zE rfl rfl wU (zF rfl rfl y0 sh3 rfl ?_)))))))
  refine zAt rfl rfl rfl (zA (k_cT rfl (decide_eq_true (by omega)) (kQ (zF rfl rfl y2 sh81 rfl ?_))))
  refine zC rfl ?_
  refine o_yield (a:=A) rfl rfl (zo (hc.bl l)) hc.own (by rw[hp1];simp[hp2]) (by rw[hp1];rfl) (.lrefl _) (hc.run is orc hi l p e hpk) (fun u st1 hM=>?_)
  rcases hM with ⟨hs,rfl,e',rfl⟩|⟨hs,rfl,e',rfl⟩
  ·refine zB rfl ?_
   refine zA (zU ?_)
   refine⟨(fun l h=>by cases h),.inr rfl,_,.cons _ _ _ _ (.tmp 6) .nil,_,.refl _,e',.inl ⟨by simp[lvP,hs],rfl,rfl⟩⟩
  ·refine zB rfl ?_
   refine zA (zU ?_)
   refine⟨(fun l h=>by cases h),.inr rfl,_,.cons _ _ _ _ (.tmp 6) .nil,_,.refl _,e',.inr ⟨by simp[lvP,hs],rfl,rfl⟩⟩
 |succ r ih=>
  intro p l e hpr hpre he
  have hX:=hc.len l
  have y0:(X l++e)[bi]? =some (.box (Bk.cs b)):=zo (hbi l)
  refine zAW body123 pure123 rfl rfl ?_
  refine kQ (zB rfl (zA (k_scope (kQ (zC rfl (yF rfl ty94 rfl (List.length_map _) ?_))))))
  refine zB rfl (zA (k_seq (kQ (zC rfl (zE rfl rfl yB (zE rfl rfl wU (zF rfl rfl y0 sh3 rfl ?_)))))))
  refine zAt rfl rfl rfl (zA (k_cF rfl (decide_eq_false (by omega)) (zQ (k_seq (k_label ?_)))))
  refine k_seq (kQ (zC rfl (zA (zL ?_))))
  refine yh (fun kk s2=>∃(j:Nat) (e1:List SB),kk+j=4∧(ptP b r p j).any stop=false∧s2.st=X (l++ptP b r p j)++(e++e1)∧Holds s2 [(0,.lst .ro 1 (zG p)),(3,.box (N+k+1) 0),(4,.box (N+k+2) 0),(7,.int .i64 p.length),(22,.int .i64 j)]) (fun kk s2 hI=>?_) 4 _ ⟨0,[],rfl,rfl,(by show X l++e=X (l++[])++(e++[]);rw[List.append_nil,List.append_nil]),.c4 rfl rfl rfl rfl (.cons rfl (.nil rfl))⟩
  obtain⟨j,e1,hkj,hno,hst2,hs2⟩:=hI
  have hX2:=hc.len (l++ptP b r p j)
  have z0:(X (l++ptP b r p j)++(e++e1))[bi]? =some (.box (Bk.cs b)):=zo (hbi _)
  have z3:(X (l++ptP b r p j)++(e++e1))[N+k+1]? =some (.box (rulC b)):=by rw[Nat.add_assoc];exact zBe hX2 (zo (he 1 _ rfl))
  have z4:(X (l++ptP b r p j)++(e++e1))[N+k+2]? =some (.box [.fn 123 [] [.box bi 0,.box (N+k) 0,.box (N+k+1) 0,.box (N+k+2) 0]]):=by rw[Nat.add_assoc];exact zBe hX2 (zo (he 2 _ rfl))
  refine zH _ _ hs2 hst2 fun fr2=>?_
  by_cases hj:j<4
  ·have eL:List.take p.length (zG p)++[U.int .i64 j]=zG (p++[(j:Int)]):=by rw[List.take_of_length_le (by simp[zG])];simp[zG]
   refine kQ (zf rfl rfl rfl (zA (k_seq (k_cT rfl (decide_eq_true (by omega)) (zQ (k_seq (zL (kQ ?_))))))))
   refine zC rfl (zB rfl (zA (kQ (zC rfl (zC rfl (zC rfl (o_slice0 rfl ty94 cl3 rfl (by simp) rfl rfl (by simp) ?_)))))))
   refine zC rfl (wb (es:=[.int .i64 ↑j]) rfl ty94 ze3 cl3 rfl rfl rfl rfl rfl rfl rfl rfl ?_)
   refine zAQ rfl ap94_94 rfl rfl (by simp) (by simp) (by simp[yG,zq,oneU]) (by simp;omega) ?_
   refine zB rfl (zA ?_)
   refine zH [(0,.lst .ro 1 (zG p)),(3,U.box (N+k+1) 0),(4,U.box (N+k+2) 0),(7,.int .i64 ↑(List.length p)),(9,U.lst Kd.own 1 (List.take (List.length p) (zG p)++[.int .i64 ↑j])),(22,.int .i64 ↑j)] (X (l++ptP b r p j)++(e++e1)) (.c4 rfl rfl rfl rfl (.cons rfl (.cons rfl (.nil rfl)))) rfl fun fr=>?_
   refine k_seq (kQ ?_)
   refine o_weak 9 rfl (fun _=>rfl) (u:=.lst .ro 1 (zG (p++[(j:Int)]))) (by rw[←eL];exact .ro .own _ _) ?_
   refine zJ rfl rfl z3 sh118 rfl ?_
   refine zC rfl (zA (zL ?_))
   have hpl:(p++[(j:Int)])[p.length]? =some (j:Int):=by simp
   have hpl2:(p++[(j:Int)]).length≤4096:=by simp;omega
   have q115:RetP Tryd.prog is orc 115 [.lst .ro 1 (zG (p++[(j:Int)])),.int .i64 p.length] (.bool true):=by
    have:=ret115 (orc:=orc) hi hpl hpl2
    rw[zBn.2 (show(0:Int)≤j∧(j:Int)≤3 by omega)]at this;exact this
   have q116:=ret116g (orc:=orc) hi (b:=b) hpl hpl2
   have hmr:∀y∈(p++[(j:Int)]).take (p.length+1),0≤y∧y≤3:=fun y hy=>by
    rcases List.mem_append.1 (List.mem_of_mem_take hy)with hy|hy
    ·exact hpre.rg y hy
    ·rcases List.mem_singleton.1 hy with rfl;omega
   have q117:=ret117 (orc:=orc) hi hpl hmr hpl2
   have ex:exB b p j=((decide (0<p.length)||decide ((j:Int)=b.start))&&(decide (p.length=0)||decide (zCe (((p++[(j:Int)])[p.length - 1]?).getD 0) j≤1))):=by
    unfold exB
    by_cases h0:p.length=0
    ·rw[decide_eq_true h0,Bool.true_or,Bool.true_or]
    ·rw[List.getElem?_append_left (by omega)]
   have hsu:=zDJ b r p j
   have hpre2:=fun hx=>hpre.snoc (show(0:Int)≤j∧(j:Int)≤3 by omega) hx
   have hany:=fun hx=>ptP_any (b:=b) (r:=r) (p:=p) (s:=stop) hj hx
   generalize (decide (0<p.length)||decide ((j:Int)=b.start))=B1 at*
   generalize (decide (p.length=0)||decide (zCe (((p++[(j:Int)])[p.length - 1]?).getD 0) j≤1))=B2 at*
   refine yh (fun mm s2=>∃i:Nat,mm+i=3∧(2≤i→B1=true)∧(3≤i→B2=true)∧s2.st=X (l++ptP b r p j)++(e++e1)∧Holds s2 [(0,.lst .ro 1 (zG p)),(3,.box (N+k+1) 0),(4,.box (N+k+2) 0),(7,.int .i64 p.length),(9,.lst .ro 1 (zG (p++[(j:Int)]))),(22,.int .i64 j),(32,.agg (rulC b)),(33,.int .i64 i)]) (fun mm s2 hI=>?_) 3 _ ⟨0,rfl,(fun h=>by omega),(fun h=>by omega),rfl,.c4 rfl rfl rfl rfl (.c4 rfl rfl rfl rfl (.nil rfl))⟩
   obtain⟨i,hmi,h1,h2,hst3,hs3⟩:=hI
   refine zH _ _ hs3 hst3 fun fr3=>?_
   have hi3:i=0∨i=1∨i=2∨i=3:=by omega
   rcases hi3 with rfl|rfl|rfl|rfl
   ·refine kQ ?_
    refine zf rfl rfl rfl (zA (k_seq (k_cT rfl rfl ?_)))
    refine zQ (k_seq (zL (kQ (wg rfl zDr rfl rfl (by omega) (by omega) zEN zDv rfl ?_))))
    refine zB rfl (zA (kQ (zC rfl (zC rfl (zC rfl (ye rfl rfl q115 (.lrefl _) ?_))))))
    refine yu rfl rfl (zA (k_cF rfl rfl ?_))
    refine zQ (k_region ?_)
    refine yO rfl rfl rfl (by unfold I64;omega) (zC rfl (zA ?_))
    exact⟨mm - 1,by omega,1,by omega,(fun h=>by omega),(fun h=>by omega),rfl,.c4 rfl rfl rfl rfl (.c4 rfl rfl rfl rfl (.nil rfl))⟩
   ·cases B1 with
    |true=>
     refine kQ (zf rfl rfl rfl (zA (k_seq (k_cT rfl rfl ?_))))
     refine zQ (k_seq (zL (kQ (wg rfl zDr rfl rfl (by omega) (by omega) zEN zDv rfl ?_))))
     refine zB rfl (zA (kQ (zC rfl (zC rfl (zC rfl (ye rfl rfl q116 (.lrefl _) ?_))))))
     refine yu rfl rfl (zA (k_cF rfl rfl ?_))
     refine zQ (k_region ?_)
     refine yO rfl rfl rfl (by unfold I64;omega) (zC rfl (zA ?_))
     exact⟨mm - 1,by omega,2,by omega,(fun _=>rfl),(fun h=>by omega),rfl,.c4 rfl rfl rfl rfl (.c4 rfl rfl rfl rfl (.nil rfl))⟩
    |false=>
     rw[Bool.false_and]at ex
     rw[ex,if_neg (by simp),List.append_nil]at hsu
     refine kQ (zf rfl rfl rfl (zA (k_seq (k_cT rfl rfl ?_))))
     refine zQ (k_seq (zL (kQ (wg rfl zDr rfl rfl (by omega) (by omega) zEN zDv rfl ?_))))
     refine zB rfl (zA (kQ (zC rfl (zC rfl (zC rfl (ye rfl rfl q116 (.lrefl _) ?_))))))
     refine yu rfl rfl (zA (k_cT rfl rfl ?_))
     refine yP (k_region ?_)
     refine yO rfl rfl rfl (by unfold I64;omega) (zC rfl (zA ?_))
     exact⟨kk - 1,by omega,j+1,e1,by omega,(by rw[hsu];exact hno),(by rw[hsu];rfl),.c4 rfl rfl rfl rfl (.cons rfl (.nil rfl))⟩
   ·cases B2 with
    |true=>
     refine kQ (zf rfl rfl rfl (zA (k_seq (k_cT rfl rfl ?_))))
     refine zQ (k_seq (zL (kQ (wg rfl zDr rfl rfl (by omega) (by omega) zEN zDv rfl ?_))))
     refine zB rfl (zA (kQ (zC rfl (zC rfl (zC rfl (ye rfl rfl q117 (.lrefl _) ?_))))))
     refine yu rfl rfl (zA (k_cF rfl rfl ?_))
     refine zQ (k_region ?_)
     refine yO rfl rfl rfl (by unfold I64;omega) (zC rfl (zA ?_))
     exact⟨mm - 1,by omega,3,by omega,(fun _=>h1 (by omega)),(fun _=>rfl),rfl,.c4 rfl rfl rfl rfl (.c4 rfl rfl rfl rfl (.nil rfl))⟩
    |false=>
     rw[Bool.and_false]at ex
     rw[ex,if_neg (by simp),List.append_nil]at hsu
     refine kQ (zf rfl rfl rfl (zA (k_seq (k_cT rfl rfl ?_))))
     refine zQ (k_seq (zL (kQ (wg rfl zDr rfl rfl (by omega) (by omega) zEN zDv rfl ?_))))
     refine zB rfl (zA (kQ (zC rfl (zC rfl (zC rfl (ye rfl rfl q117 (.lrefl _) ?_))))))
     refine yu rfl rfl (zA (k_cT rfl rfl ?_))
     refine yP (k_region ?_)
     refine yO rfl rfl rfl (by unfold I64;omega) (zC rfl (zA ?_))
     exact⟨kk - 1,by omega,j+1,e1,by omega,(by rw[hsu];exact hno),(by rw[hsu];rfl),.c4 rfl rfl rfl rfl (.cons rfl (.nil rfl))⟩
   ·rw[h1 (by omega),h2 (by omega)]at ex
    have hex:exB b p j=true:=ex
    rw[hex,if_pos rfl]at hsu
    have q123:=ih (p++[(j:Int)]) (l++ptP b r p j) (e++e1) (by simp;omega) (hpre2 hex) (fun i x hx=>zo (he i x hx))
    have hanyj:=hany hex
    generalize lvP b r (p++[(j:Int)])=M at*
    refine kQ (zf rfl rfl rfl (zA (k_seq (k_cF rfl rfl ?_))))
    refine yP (kQ (zF rfl rfl z4 sh81 rfl ?_))
    refine zC rfl ?_
    refine zEf rfl rfl q123 (.lrefl _) (fun u st1 hM=>?_)
    obtain⟨e2,⟨hs,rfl,rfl⟩|⟨hs,rfl,rfl⟩⟩:=hM
    ·refine yu rfl rfl ?_
     refine zA (k_cF rfl rfl ?_)
     refine zQ (k_region ?_)
     refine yO rfl rfl rfl (by unfold I64;omega) (zC rfl (zA ?_))
     exact⟨kk - 1,by omega,j+1,e1++e2,by omega,(by rw[hsu,List.any_append,hno,hs];rfl),(by show X ((l++ptP b r p j)++M)++((e++e1)++e2)=X (l++ptP b r p (j+1))++(e++(e1++e2));rw[hsu];simp only[List.append_assoc]),.c4 rfl rfl rfl rfl (.cons rfl (.nil rfl))⟩
    ·refine yu rfl rfl ?_
     refine zA (k_cT rfl rfl ?_)
     refine kQ (zB rfl (zA (zU ?_)))
     exact⟨(fun l h=>by cases h),.inr rfl,_,.cons _ _ _ _ (.tmp 6) .nil,_,.refl _,e1++e2,.inr ⟨hanyj hs,rfl,(by show D++((e++e1)++e2)=D++(e++(e1++e2));rw[List.append_assoc])⟩⟩
  ·have hj4:j=4:=by omega
   subst hj4
   refine kQ (zf rfl rfl rfl (zA (k_seq (k_cF rfl rfl ?_))))
   refine yP (kQ (zB rfl (zA (zU ?_))))
   exact⟨(fun l h=>by cases h),.inr rfl,_,.cons _ _ _ _ (.tmp 6) .nil,_,.refl _,e1,.inl ⟨hno,rfl,rfl⟩⟩
end
section
variable {is:FuncId→Bool}{orc:Known}
noncomputable def b106:Code:=(Tryd.f106.body).getD .skip
theorem body106:bodyOf Tryd.prog 106=some (4,b106,[.tmp 2]):=by kernel_rfl
theorem pure106:pureFn Tryd.prog 106=false:=by kernel_rfl
theorem ze81:yV Tryd.prog 81=some ((.cons .nilf .nil):V):=by kernel_rfl
noncomputable def b122:Code:=(Tryd.f122.body).getD .skip
theorem body122:bodyOf Tryd.prog 122=some (10,b122,[]):=by kernel_rfl
theorem pure122:pureFn Tryd.prog 122=false:=by kernel_rfl
noncomputable def b105:Code:=(Tryd.f105.body).getD .skip
theorem body105:bodyOf Tryd.prog 105=some (6,b105,[.tmp 4]):=by kernel_rfl
theorem pure105:pureFn Tryd.prog 105=false:=by kernel_rfl
theorem sh99:shOf Tryd.prog 99=.one:=by kernel_rfl
noncomputable def b121:Code:=(Tryd.f121.body).getD .skip
theorem body121:bodyOf Tryd.prog 121=some (16,b121,[]):=by kernel_rfl
theorem pure121:pureFn Tryd.prog 121=false:=by kernel_rfl
noncomputable def b76:Code:=(Tryd.f76.body).getD .skip
theorem body76:bodyOf Tryd.prog 76=some (8,b76,[.tmp 2]):=by kernel_rfl
theorem pure76:pureFn Tryd.prog 76=false:=by kernel_rfl
variable {N A:Nat}{lp:Lp}{stop:List Int→Bool}{X:List (List Int)→List SB}{D:List SB}{b:Bk}
def paths(b:Bk):List (List Int):=lvP b b.parts.toNat []
def Gen(g:Nat)(B:List U)(caps:List (Nat×SB))(els:List (List Int))(elt:List Int→Prop):Prop:=
 ∀(is:FuncId→Bool) (orc:Known),Off is→∀{N A:Nat} {lp:Lp} {stop:List Int→Bool} {X:List (List Int)→List SB} {D:List SB},Cns N A lp stop X D elt→(∀c∈caps,∀l,(X l)[c.1]? =some c.2)→
  WpC Tryd.prog is orc g (.yld A::B) (X []) fun _ st'=>(els.any stop=false∧st'=X els)∨(els.any stop=true∧st'=D)
theorem Cns.lt{elt:List Int→Prop}(hc:Cns N A lp stop X D elt):A<N:=by
 have h1:=(List.getElem?_eq_some_iff.1 (hc.bl [])).1
 rw[hc.len]at h1;exact h1
theorem wo{P Q:List SB}{n:Nat}(h:P.length=n):(P++Q).take n=P:=by rw[←h,List.take_left]
set_option maxHeartbeats 8000000 in
theorem gen122(hb:BOk b)(ci:Nat):Gen 122 [.box ci 0] [(ci,.box (Bk.cs b))] (paths b) (POk b):=by
 intro is orc hi N A lp stop X D hc hcap
 have hX:=hc.len []
 have h0:(X [])[ci]? =some (.box (Bk.cs b)):=hcap _ List.mem_cons_self []
 have q94:=ret94 (orc:=orc) hi b
 have hpa:=hb.pa
 refine wpc_cut body122 pure122 rfl rfl ?_
 refine kQ (zc rfl rfl (zA ?_))
 refine zH [(1,U.box ci 0),(2,U.box (List.length (X [])) 0)] (X []++[SB.box [U.yld A]]) (.cons rfl (.cons rfl (.nil rfl))) rfl fun fr=>?_
 refine kQ (zJ rfl rfl (zo h0) sh75 rfl ?_)
 refine zP rfl (q94) (.lrefl _) (zi rfl ze118 ?_)
 refine zZ rfl (zp _ _) sh118 rfl rfl rfl rfl rfl ?_
 refine zA ?_
 refine zH [(1,U.box ci 0),(2,U.box (List.length (X [])) 0),(3,U.box (List.length (X []++[SB.box [U.yld A]])) 0)] (X []++[SB.box [U.yld A]]++[SB.box [U.fn 115 [] [],U.fn 116 [Bk.u b] [],U.fn 117 [] []]]) (.cons rfl (.cons rfl (.cons rfl (.nil rfl)))) (yx _ _ _) fun fr=>?_
 refine kQ (zi rfl ze81 ?_)
 refine zA ?_
 refine zH [(1,U.box ci 0),(2,U.box (List.length (X [])) 0),(3,U.box (List.length (X []++[SB.box [U.yld A]])) 0),(4,U.box (List.length (X []++[SB.box [U.yld A]]++[SB.box [U.fn 115 [] [],U.fn 116 [Bk.u b] [],U.fn 117 [] []]])) 0)] (X []++[SB.box [U.yld A]]++[SB.box [U.fn 115 [] [],U.fn 116 [Bk.u b] [],U.fn 117 [] []]]++[SB.box [U.nilf]]) (.c4 rfl rfl rfl rfl (.nil rfl)) rfl fun fr=>?_
 refine kQ ?_
 refine zBw rfl ?_
 refine zAP rfl (zp _ _) sh81 rfl rfl ?_
 refine zA ?_
 refine zH [(4,U.box (List.length (X []++[SB.box [U.yld A]]++[SB.box [U.fn 115 [] [],U.fn 116 [Bk.u b] [],U.fn 117 [] []]])) 0)] (X []++[SB.box [U.yld A]]++[SB.box [U.fn 115 [] [],U.fn 116 [Bk.u b] [],U.fn 117 [] []]]++[SB.box [U.fn 123 [] [U.box ci 0,U.box (List.length (X [])) 0,U.box (List.length (X []++[SB.box [U.yld A]])) 0,U.box (List.length (X []++[SB.box [U.yld A]]++[SB.box [U.fn 115 [] [],U.fn 116 [Bk.u b] [],U.fn 117 [] []]])) 0]]]) (.cons rfl (.nil rfl)) (yx _ _ _) fun fr=>?_
 refine k_region (zF rfl rfl (zp _ _) sh81 rfl ?_)
 refine zV [(8,.fn 123 [] [.box ci 0,.box (N+0) 0,.box (N+0+1) 0,.box (N+0+2) 0])] [] (X []++R3 b A N ci 0) (.cons (by
  show U.fn 123 [] [.box ci 0,.box (X []).length 0,.box (X []++[SB.box [.yld A]]).length 0,.box (X []++[SB.box [.yld A]]++[SB.box (rulC b)]).length 0]=_
  simp[hX]) (.nil rfl)) (by
  show X []++[SB.box [.yld A]]++[SB.box (rulC b)]++[SB.box [.fn 123 [] [.box ci 0,.box (X []).length 0,.box (X []++[SB.box [.yld A]]).length 0,.box (X []++[SB.box [.yld A]]++[SB.box (rulC b)]).length 0]]]=_
  simp[hX]) rfl fun fr=>?_
 refine zEf rfl rfl (wpc123 hi hb hc (bi:=ci) (k:=0) (fun l=>hcap _ List.mem_cons_self l) b.parts.toNat [] [] (R3 b A N ci 0) (by simp;omega) (pre_nil b) (fun i x h=>by rw[Nat.zero_add];exact h)) (.lcons _ _ _ _ (.nil .full .ro 1) (.lrefl _)) (fun u st1 hM=>?_)
 obtain⟨e2,⟨hs,rfl,rfl⟩|⟨hs,rfl,rfl⟩⟩:=hM
 ·refine zA ?_
  refine⟨.inl rfl,_,.nil,_,.refl _,Bd.tup (fun c hc=>by cases hc),?_,?_,.inl ⟨hs,?_⟩⟩
  ·show(X []).length≤(X _++_).length
   rw[List.length_append,hX,hc.len];omega
  ·show ∀x∈(X _++_).take (X []).length,BdS (X []).length x
   rw[hX,wo (hc.len _)];exact hc.bd _
  ·show(X _++_).take (X []).length=_
   rw[hX,wo (hc.len _)];rfl
 ·refine zA ?_
  refine⟨.inl rfl,_,.nil,_,.refl _,Bd.tup (fun c hc=>by cases hc),?_,?_,.inr ⟨hs,?_⟩⟩
  ·show(X []).length≤(D++_).length
   rw[List.length_append,hX,hc.lenD];omega
  ·show ∀x∈(D++_).take (X []).length,BdS (X []).length x
   rw[hX,wo hc.lenD];exact hc.bdD
  ·show(D++_).take (X []).length=_
   rw[hX,wo hc.lenD]
noncomputable def rg121:Code×Code:=match b121 with
 | .seq _ (.seq _ (.block _ (.rangeFunc _ _ a b)))=>(a,b)
 |_=>(.skip,.skip)
theorem wpc106(b:Bk)(st:List SB):WpC Tryd.prog is orc 106 [b.u] st fun u st'=>u=.fn 122 [] [.box st.length 0]∧st'=st++[.box (Bk.cs b)]:=by
 refine zAW body106 pure106 rfl rfl ?_
 refine kQ (zc rfl rfl (zB rfl (zA ?_)))
 refine zH [(1,U.box (List.length st) 0)] (st++[SB.box (Bk.cs b)]) (.cons rfl (.nil rfl)) rfl fun fr=>?_
 refine kQ ?_
 refine zBw rfl ?_
 refine zB rfl (zA (zU ?_))
 refine⟨.inr rfl,_,.cons _ _ _ _ (.tmp 2) .nil,?_⟩
 exact⟨_,.refl _,rfl,rfl⟩
theorem wpc105(f g:Nat)(F1 F2 G1 G2:List U)(st:List SB):WpC Tryd.prog is orc 105 [.fn f F1 F2,.fn g G1 G2] st fun u st'=>u=.fn 121 [] [.box st.length 0,.box (st.length+1) 0]∧st'=st++[.box [.fn f F1 F2],.box [.fn g G1 G2]]:=by
 refine zAW body105 pure105 rfl rfl ?_
 refine kQ (zc rfl rfl (zc rfl rfl (zB rfl (zA ?_))))
 refine zH [(2,U.box (List.length st) 0),(3,U.box (List.length (st++[SB.box [U.fn f F1 F2]])) 0)] (st++[SB.box [U.fn f F1 F2]]++[SB.box [U.fn g G1 G2]]) (.cons rfl (.cons rfl (.nil rfl))) rfl fun fr=>?_
 refine kQ ?_
 refine zBw rfl ?_
 refine zB rfl (zA (zU ?_))
 refine⟨.inr rfl,_,.cons _ _ _ _ (.tmp 4) .nil,?_⟩
 exact⟨_,.refl _,(by show U.fn 121 [] [.box st.length 0,.box (st++[SB.box _]).length 0]=_;simp),(by show(st++[SB.box _])++[SB.box _]=_;rw[List.append_assoc];rfl)⟩
noncomputable def lp121(pi si N g:Nat)(B:List U):Lp:=⟨fun i=>dg (zCA [(2,.box si 0),(3,.box N 0),(5,.fn g [] B)] i .junk),[6],rg121.1,rg121.2⟩
noncomputable abbrev zBI(A:Nat)(pi si N g:Nat)(B:List U)(q:Lq):List SB:=[.box [.yld A],.loop q (lp121 pi si N g B)]
section those
variable {pi si g h:Nat}{B C:List U}{sel:List Int→Bool}{els:List (List Int)}{elt:List Int→Prop}
set_option maxHeartbeats 16000000 in
theorem yield121(hi:Off is)(hc:Cns N A lp stop X D elt)(hsi:∀l,(X l)[si]? =some (.box [.fn h C []]))(hsel:∀(is:FuncId→Bool) (orc:Known),Off is→∀L,elt L→RetP Tryd.prog is orc h (C++[.lst .ro 1 (zG L)]) (.bool (sel L)))
  (l:List (List Int)) (q:List Int) (e:List SB) (hq:elt q):
  WpY Tryd.prog is orc (N+1) (lp121 pi si N g B) [.lst .ro 1 (zG q)] ((X (l.filter sel)++zBI A pi si N g B .ready)++e) fun u st'=>
   ((sel q&&stop q)=false∧u=.bool true∧∃e',st'=(X ((l++[q]).filter sel)++zBI A pi si N g B .ready)++(e++e'))∨
   ((sel q&&stop q)=true∧u=.bool false∧∃e',st'=(D++zBI A pi si N g B (.done .ret))++(e++e')):=by
 show Wp _ _ _ rg121.1 _ _
 rw[List.filter_append]
 generalize l.filter sel=F
 have hX:=hc.len F
 have hD:=hc.lenD
 have hlt:=hc.lt
 have set1:∀(P:List SB) (x:Lq),P.length=N→∀y E,((P++zBI A pi si N g B y)++E).set (N+1) (.loop x (lp121 pi si N g B))=(P++zBI A pi si N g B x)++E:=fun P x hP y E=>by
  rw[List.set_append_left _ _ (by simp[hP]),List.set_append_right _ _ (by omega),hP,Nat.add_sub_cancel_left];rfl
 have hE:∀(P:List SB) (y:Lq) (e':List SB),P++((zBI A pi si N g B y++e)++e')=(P++zBI A pi si N g B y)++(e++e'):=fun P y e'=>by simp only[List.append_assoc]
 have qsel:=hsel is orc hi q hq
 refine k_region (zB rfl (zA ?_))
 refine⟨rfl,?_,?_⟩
 ·show((X F++zBI A pi si N g B .ready)++e)[N+1]? =_
  exact zo (zBe hX rfl)
 refine zH [(2,.box si 0),(3,.box N 0),(4,.lst .ro 1 (zG q))] ((X F++zBI A pi si N g B .busy)++e) (.cons rfl (.cons rfl (.cons rfl (.nil rfl)))) (by
  show((X F++zBI A pi si N g B .ready)++e).set (N+1) (.loop .busy (lp121 pi si N g B))=_
  exact set1 _ _ hX _ _) fun fr=>?_
 have z2:((X F++zBI A pi si N g B .busy)++e)[si]? =some (.box [.fn h C []]):=zo (zo (hsi F))
 have z3:((X F++zBI A pi si N g B .busy)++e)[N]? =some (.box [.yld A]):=zo (zBe (i:=0) hX rfl)
 show Wp _ _ _ rg121.2 _ _
 generalize hz:sel q=z at*
 cases z with
 |false=>
  have hf:[q].filter sel=[]:=by simp[hz]
  refine zL (kQ (zF rfl rfl z2 sh81 rfl ?_))
  refine zC rfl (ye rfl rfl qsel (.lrefl _) ?_)
  refine zC rfl (o_gS rfl rfl rfl rfl rfl (o_gS rfl rfl rfl rfl rfl (o_gS rfl rfl rfl rfl rfl (o_gS rfl rfl rfl rfl rfl (zN rfl rfl rfl ?_)))))
  refine zA (k_cF rfl rfl ?_)
  refine zQ ?_
  refine⟨zo (zBe hX rfl),.inl ⟨rfl,rfl,[],?_⟩⟩
  show((X F++zBI A pi si N g B .busy)++e).set (N+1) (.loop .ready (lp121 pi si N g B))=_
  rw[set1 _ _ hX,hf,List.append_nil,List.append_nil]
 |true=>
  have hf:[q].filter sel=[q]:=by simp[hz]
  have hX2:=hc.len (F++[q])
  have hr:=hc.run is orc hi F q (zBI A pi si N g B .busy++e) hq
  rw[←List.append_assoc]at hr
  obtain⟨pp,hp1,hp2⟩:=hc.ps
  refine zL (kQ (zF rfl rfl z2 sh81 rfl ?_))
  refine zC rfl (ye rfl rfl qsel (.lrefl _) ?_)
  refine zC rfl (o_gD rfl rfl rfl rfl rfl (zF rfl rfl z3 sh81 rfl ?_))
  refine o_gD rfl rfl rfl rfl rfl (zC rfl (o_gD rfl rfl rfl rfl rfl ?_))
  refine o_yield (a:=A) rfl rfl (zo (zo (hc.bl F))) hc.own (by rw[hp1];simp[hp2]) (by rw[hp1];rfl) (.lrefl _) hr (fun u st1 hM=>?_)
  rcases hM with ⟨hs,rfl,e',rfl⟩|⟨hs,rfl,e',rfl⟩
  ·refine o_gD rfl rfl rfl rfl rfl ?_
   refine yu rfl rfl (za rfl rfl rfl ?_)
   refine zA (k_cF rfl rfl ?_)
   refine zQ ?_
   refine⟨?_,.inl ⟨by rw[hs];rfl,rfl,e',?_⟩⟩
   ·show(X (F++[q])++((zBI A pi si N g B .busy++e)++e'))[N+1]? =_
    rw[hE];exact zo (zBe hX2 rfl)
   ·show(X (F++[q])++((zBI A pi si N g B .busy++e)++e')).set (N+1) _=_
    rw[hE,set1 _ _ hX2,hf]
  ·refine o_gD rfl rfl rfl rfl rfl ?_
   refine yu rfl rfl (za rfl rfl rfl ?_)
   refine zA (k_cT rfl rfl ?_)
   refine zU ?_
   refine⟨?_,.inr ⟨by rw[hs];rfl,rfl,e',?_⟩⟩
   ·show(D++((zBI A pi si N g B .busy++e)++e'))[N+1]? =_
    rw[hE];exact zo (zBe hD rfl)
   ·show(D++((zBI A pi si N g B .busy++e)++e')).set (N+1) _=_
    rw[hE,set1 _ _ hD];rfl
theorem any_sel(l:List (List Int))(p:List Int→Bool):l.any (fun q=>sel q&&p q)=(l.filter sel).any p:=by rw[List.any_filter]
theorem lookU_all{p:U→Prop}{l:List (Nat×U)}{d:U}(h:∀x∈l,p x.2)(hd:p d)(i:Nat):p (zCA l i d):=by
 induction l with
 |nil=>exact hd
 |cons x l ih=>
  obtain⟨j,u⟩:=x
  show p (Vam.cond (Nat.beq i j) u (zCA l i d))
  cases Nat.beq i j with
  |true=>exact h _ List.mem_cons_self
  |false=>exact ih fun y hy=>h y (List.mem_cons_of_mem _ hy)
theorem lp121_bd(hs:si<N)(hB:∀u∈B,Bd N u)(i:Nat):Bd (N+1) ((lp121 pi si N g B).fr i):=by
 refine lookU_all (p:=fun u=>Bd (N+1) (dg u)) ?_ (Bd.junk _) i
 intro x hx
 simp only[List.mem_cons,List.not_mem_nil,or_false]at hx
 rcases hx with rfl|rfl|rfl
 ·exact Bd.box (by omega)
 ·exact Bd.box (by omega)
 ·exact Bd.fn (fun u hu=>by cases hu) fun u hu=>Bd.mono (hB u hu) (by omega)
set_option maxHeartbeats 16000000 in
theorem gen121{caps:List (Nat×SB)}(hg:Gen g B caps els elt)(hB:∀(N:Nat),(∀c∈caps,c.1<N)→∀u∈B,Bd N u)
  (hsel:∀(is:FuncId→Bool) (orc:Known),Off is→∀L,elt L→RetP Tryd.prog is orc h (C++[.lst .ro 1 (zG L)]) (.bool (sel L))):
  Gen 121 [.box pi 0,.box si 0] ((pi,.box [.fn g [] B])::(si,.box [.fn h C []])::caps) (els.filter sel) elt:=by
 intro is orc hi N A lp stop X D hc hcap
 have hX:=hc.len []
 have hD:=hc.lenD
 have hlt:=hc.lt
 have hpi:=hcap _ List.mem_cons_self
 have hsi:=hcap _ (List.mem_cons_of_mem _ List.mem_cons_self)
 have hca:∀c∈caps,∀l,(X l)[c.1]? =some c.2:=fun c hc=>hcap c (List.mem_cons_of_mem _ (List.mem_cons_of_mem _ hc))
 have lt_of:∀{i x},(X [])[i]? =some x→i<N:=fun h1=>by have:=(List.getElem?_eq_some_iff.1 h1).1;omega
 have hBN:=hB N fun c hc=>lt_of (hca c hc [])
 have hlp:=lp121_bd (N:=N) (pi:=pi) (g:=g) (lt_of (hsi [])) hBN
 have bd2:∀(P:List SB) (q:Lq),(∀x∈P,BdS N x)→∀x∈P++zBI A pi si N g B q,BdS (N+2) x:=fun P q hP x hx=>by
  rcases List.mem_append.1 hx with hx|hx
  ·exact BdS.mono (hP x hx) (by omega)
  ·simp only[List.mem_cons,List.not_mem_nil,or_false]at hx
   rcases hx with rfl|rfl
   ·intro c hc;rcases List.mem_singleton.1 hc with rfl;exact Bd.yld (by omega)
   ·exact fun i=>Bd.mono (hlp i) (by omega)
 have hc2:Cns (N+2) (N+1) (lp121 pi si N g B) (fun q=>sel q&&stop q) (fun l=>X (l.filter sel)++zBI A pi si N g B .ready) (D++zBI A pi si N g B (.done .ret)) elt:=by
  refine⟨fun l=>by simp[hc.len],by simp[hD],fun l=>bd2 _ _ (hc.bd _),bd2 _ _ hc.bdD,fun l=>zBe (hc.len _) rfl,fun i=>zCR _,⟨6,rfl,rfl⟩,fun is orc hi l q e hq=>?_⟩
  exact yield121 hi hc hsi hsel l q e hq
 have hw:=hg is orc hi hc2 (fun c hc l=>zo (hca c hc _))
 rw[any_sel]at hw
 refine wpc_cut body121 pure121 rfl rfl ?_
 have y1:=hpi []
 refine kQ (zc rfl rfl (zA ?_))
 refine zH [(1,U.box pi 0),(2,U.box si 0),(3,U.box (List.length (X [])) 0)] (X []++[SB.box [U.yld A]]) (.cons rfl (.cons rfl (.cons rfl (.nil rfl)))) rfl fun fr=>?_
 refine kQ (zF rfl rfl (zo y1) sh99 rfl ?_)
 refine zA (zL ?_)
 refine k_forget [(2,.box si 0),(3,.box N 0),(5,.fn g [] B)] (X []++[.box [.yld A]]) (.cons rfl (.cons (by show U.box (X []).length 0=_;rw[hX]) (.cons rfl (.nil rfl)))) rfl ?_
 have hl1:(X []++[SB.box [.yld A]]).length=N+1:=by simp[hX]
 refine k_range (g:=g) rfl ?_
 show WpC Tryd.prog is orc g (.yld (X []++[SB.box [.yld A]]).length::B) ((X []++[SB.box [.yld A]])++[.loop .ready (lp121 pi si N g B)]) _
 rw[hl1,List.append_assoc]
 refine hw.mono fun _ st' hst=>?_
 have tk:∀(P:List SB) (q:Lq),P.length=N→(P++zBI A pi si N g B q).take (N+1)=P++[.box [.yld A]]:=fun P q hP=>by
  rw[show P++zBI A pi si N g B q=(P++[SB.box [.yld A]])++[SB.loop q (lp121 pi si N g B)] by rw[List.append_assoc];rfl,wo (by simp[hP])]
 have bd1:∀(P:List SB),(∀x∈P,BdS N x)→∀x∈P++[SB.box [.yld A]],BdS (N+1) x:=fun P hP x hx=>by
  rcases List.mem_append.1 hx with hx|hx
  ·exact BdS.mono (hP x hx) (by omega)
  ·rcases List.mem_singleton.1 hx with rfl
   intro c hc;rcases List.mem_singleton.1 hc with rfl;exact Bd.yld (by omega)
 rcases hst with ⟨h1,h2⟩|⟨h1,h2⟩
 ·refine⟨.ready,by rw[h2];exact zBe (hc.len _) rfl,?_,?_⟩
  ·rw[h2,tk _ _ (hc.len _)];exact bd1 _ (hc.bd _)
  ·rw[h2,tk _ _ (hc.len _)]
   refine⟨.inl rfl,_,.nil,_,.refl _,Bd.tup (fun c hc=>by cases hc),?_,?_,.inl ⟨h1,?_⟩⟩
   ·show(X []).length≤(X _++_).length
    rw[List.length_append,hX,hc.len];omega
   ·show ∀x∈(X _++_).take (X []).length,BdS (X []).length x
    rw[hX,wo (hc.len _)];exact hc.bd _
   ·show(X _++_).take (X []).length=_
    rw[hX,wo (hc.len _)]
 ·refine⟨.done .ret,by rw[h2];exact zBe hD rfl,?_,?_⟩
  ·rw[h2,tk _ _ hD];exact bd1 _ hc.bdD
  ·rw[h2,tk _ _ hD]
   refine⟨.inr rfl,_,.nil,_,.refl _,Bd.tup (fun c hc=>by cases hc),?_,?_,.inr ⟨h1,?_⟩⟩
   ·show(X []).length≤(D++_).length
    rw[List.length_append,hX,hD];omega
   ·show ∀x∈(D++_).take (X []).length,BdS (X []).length x
    rw[hX,wo hD];exact hc.bdD
   ·show(D++_).take (X []).length=_
    rw[hX,wo hD]
end those
end
end Go.Proofs.YtfbmlibilcjlgaaDoor.drumBounds
