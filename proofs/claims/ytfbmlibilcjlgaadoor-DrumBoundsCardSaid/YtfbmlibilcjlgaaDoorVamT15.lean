import Derived.Test.YtfbmlibilcjlgaaDoorVamT11
set_option linter.unusedVariables false
set_option linter.unusedSimpArgs false
set_option linter.constructorNameAsVariable false
namespace Go.Proofs.YtfbmlibilcjlgaaDoor.drumBounds
open Vam
variable {is:FuncId→Bool}{orc:Known}
theorem sh4:shOf Tryd.prog 4=.one:=by kernel_rfl
theorem ze4:yV Tryd.prog 4=some ((.cons (.bool false) .nil):V):=by kernel_rfl
noncomputable def b110:Code:=(Tryd.f110.body).getD .skip
theorem body110:bodyOf Tryd.prog 110=some (6,b110,[.cell 2 4]):=by kernel_rfl
theorem pure110:pureFn Tryd.prog 110=true:=by kernel_rfl
variable {b:Bk}
def zEc(b:Bk):List (List Int):=(paths b).filter (zBh b)
abbrev plC(b:Bk)(n:Nat):List SB:=[.box [.int .i64 b.parts,.int .i64 b.size,.lst .ro 1 (zG b.beats),.int .i64 b.start,.int .i64 b.fin,.int .i64 b.tlo,.int .i64 b.thi,.int .i64 b.slo,.int .i64 b.shi,.int .i64 b.notice,.lst .ro 3 (plsU b.players)],.box [.int .i64 b.parts,.int .i64 b.size,.lst .ro 1 (zG b.beats),.int .i64 b.start,.int .i64 b.fin,.int .i64 b.tlo,.int .i64 b.thi,.int .i64 b.slo,.int .i64 b.shi,.int .i64 b.notice,.lst .ro 3 (plsU b.players)],.box [.fn 122 [] [.box (n+1) 0]],.box [.fn 71 [b.u] []]]
theorem q106(b:Bk)(n:Nat):WpC Tryd.prog is orc 106 [b.u] (List.replicate n .dead) fun u st'=>∃new,st'=List.replicate n .dead++new∧Fwd n u∧(∀x∈new,FwdS n x)∧(u=.fn 122 [] [.box n 0]∧new=[.box (Bk.cs b)]):=by
 refine(wpc106 b (List.replicate n .dead)).mono fun u st' hM=>?_
 rw[List.length_replicate]at hM
 obtain⟨rfl,rfl⟩:=hM
 refine⟨_,rfl,.fn (fun u hu=>by cases hu) fun u hu=>?_,fun x hx=>?_,rfl,rfl⟩
 ·rcases List.mem_singleton.1 hu with rfl;exact .box (by omega)
 ·rcases List.mem_singleton.1 hx with rfl
  intro c hc
  cases yK b 4 with
  |agg _ _ h=>exact((h c hc).nb).fwd n
set_option maxHeartbeats 8000000 in
theorem wpc76(b:Bk)(st:List SB):WpC Tryd.prog is orc 76 [b.u] st fun u st'=>u=.fn 121 [] [.box (st.length+2) 0,.box (st.length+3) 0]∧st'=st++plC b st.length:=by
 refine zAW body76 pure76 rfl rfl ?_
 have hl:(st++[SB.box (Bk.cs b)]).length=st.length+1:=by simp
 refine kQ (zc rfl rfl (zB rfl (zA ?_)))
 refine zH [(1,U.box (List.length st) 0)] (st++[SB.box (Bk.cs b)]) (.cons rfl (.nil rfl)) rfl fun fr=>?_
 refine k_seq (yL [.read true,.quiet,.read true,.plain,.plain,.plain] (by kernel_rfl) (by kernel_rfl) (by kernel_rfl) ?_)
 refine zR rfl (zJ rfl rfl (zp _ _) sh75 rfl (zA rfl)) ?_
 refine d_callQW (n:=st.length+1) hl rfl (fun u hu=>by rcases List.mem_singleton.1 hu with rfl;exact(nbo_bk b).1) (q106 b (st.length+1)) (.lrefl _) (fun u new hM=>?_)
 obtain⟨rfl,rfl⟩:=hM
 refine zR rfl (zJ rfl rfl (zo (zp _ _)) sh75 rfl (zA rfl)) ?_
 refine zD (zBw rfl (zA rfl)) ?_
 refine d_callWE rfl (wpc105 122 71 [] [.box (st.length+1) 0] [b.u] [] _) (.lrefl _) fun u st1 hM=>?_
 obtain⟨rfl,rfl⟩:=hM
 refine zD (zB rfl (zA rfl)) ?_
 refine yw ?_
 refine zU ?_
 refine⟨.inr rfl,_,.cons _ _ _ _ (.tmp 2) .nil,?_⟩
 have h1:((st++[SB.box (Bk.cs b)])++[SB.box (Bk.cs b)]).length=st.length+2:=by simp
 exact⟨_,.refl _,(by show U.fn 121 [] [.box ((st++[SB.box (Bk.cs b)])++[SB.box (Bk.cs b)]).length 0,.box (((st++[SB.box (Bk.cs b)])++[SB.box (Bk.cs b)]).length+1) 0]=_;rw[h1]),(by show((st++[SB.box (Bk.cs b)])++[SB.box (Bk.cs b)])++[SB.box _,SB.box _]=_;simp only[List.append_assoc];rfl)⟩
abbrev plK(b:Bk)(n:Nat):List (Nat×SB):=[(n+2,.box [.fn 122 [] [.box (n+1) 0]]),(n+3,.box [.fn 71 [b.u] []]),(n+1,.box [.int .i64 b.parts,.int .i64 b.size,.lst .ro 1 (zG b.beats),.int .i64 b.start,.int .i64 b.fin,.int .i64 b.tlo,.int .i64 b.thi,.int .i64 b.slo,.int .i64 b.shi,.int .i64 b.notice,.lst .ro 3 (plsU b.players)])]
theorem plK_at{st:List SB}(c:Nat×SB)(hc:c∈plK b st.length)(P:List SB):(st++plC b st.length++P)[c.1]? =some c.2:=by
 rw[List.append_assoc]
 simp only[List.mem_cons,List.not_mem_nil,or_false]at hc
 rcases hc with rfl|rfl|rfl
 ·exact zBe (i:=2) rfl rfl
 ·exact zBe (i:=3) rfl rfl
 ·exact zBe (i:=1) rfl rfl
theorem genPlans(hb:BOk b)(n:Nat):Gen 121 [.box (n+2) 0,.box (n+3) 0] (plK b n) (zEc b) (POk b):=
 gen121 (gen122 hb (n+1)) (fun N h u hu=>by
  rcases List.mem_singleton.1 hu with rfl
  exact Bd.box (h _ List.mem_cons_self)) (fun is orc hi L hL=>ret71 hi hb hL)
theorem bd_plC(b:Bk)(n:Nat):∀x∈plC b n,BdS (n+4) x:=by
 have hB:BdS (n+4) (.box (Bk.cs b)):=fun c hc=>by
  cases yK b 4 with
  |agg _ _ h=>exact((h c hc).nb).bd _
 intro x hx
 simp only[List.mem_cons,List.not_mem_nil,or_false]at hx
 rcases hx with rfl|rfl|rfl|rfl
 ·exact hB
 ·exact hB
 ·intro c hc
  rcases List.mem_singleton.1 hc with rfl
  exact Bd.fn (fun u hu=>by cases hu) fun u hu=>by rcases List.mem_singleton.1 hu with rfl;exact Bd.box (by omega)
 ·intro c hc
  rcases List.mem_singleton.1 hc with rfl
  exact Bd.fn (fun u hu=>by rcases List.mem_singleton.1 hu with rfl;exact((yK b 4).nb).bd _) fun u hu=>by cases hu
theorem mem_lvP{b:Bk}:∀(r:Nat) (p L:List Int),L∈lvP b r p→∃q,L=p++q∧q.length=r:=by
 intro r
 induction r with
 |zero=>intro p L h;rcases List.mem_singleton.1 (show L∈[p]from h)with rfl;exact⟨[],by simp,rfl⟩
 |succ r ih=>
  intro p L h
  obtain⟨d,_,hd⟩:=List.mem_flatMap.1 (show L∈(List.range 4).flatMap _ from h)
  split at hd
  ·obtain⟨q,rfl,hq⟩:=ih _ _ hd
   exact⟨(d:Int)::q,by simp,by simp[hq]⟩
  ·cases hd
theorem bd_bk(b:Bk)(n:Nat):BdS n (.box (Bk.cs b)):=fun c hc=>by
 cases yK b 4 with
 |agg _ _ h=>exact((h c hc).nb).bd _
theorem k_rangeG{g n:Nat}{B:List U}{caps:List (Nat×SB)}{els:List (List Int)}{elt:List Int→Prop}{lp:Lp}{stop:List Int→Bool}{Z:List (List Int)→List SB}{DZ:List SB}{ex:Ex}{s:St}{x:Operand}{ps:Array Tmp}{assign body:Code}{Q:Ex→St→Prop}(hi:Off is)
  (hg:Gen g B caps els elt) (hx:zY s x=.fn g [] B) (hc:Cns (n+1) n lp stop (fun l=>Z l++[.loop .ready lp]) (DZ++[.loop (.done ex) lp]) elt) (hn:∀l,(Z l).length=n) (hnD:DZ.length=n) (hcap:∀c∈caps,∀l,(Z l)[c.1]? =some c.2)
  (hbd:∀l,∀x∈Z l,BdS n x) (hbdD:∀x∈DZ,BdS n x) (hlp:lpOf s ps.toList assign body=lp) (hst:s.st=Z []) (k1:els.any stop=false→endQ Q .ready ⟨s.fr,[],Z els⟩) (k2:els.any stop=true→endQ Q (.done ex) ⟨s.fr,[],DZ⟩):Wp Tryd.prog is orc (.rangeFunc x ps assign body) s Q:=by
 refine k_range hx ?_
 have hl:s.st.length=n:=by rw[hst,hn]
 show WpC Tryd.prog is orc g ([]++([.yld s.st.length]++B)) _ _
 rw[hlp,hl,hst]
 refine(hg is orc hi hc (fun c h l=>zo (hcap c h l))).mono fun _ st' hs=>?_
 rcases hs with ⟨h1,h2⟩|⟨h1,h2⟩
 ·subst h2
  exact⟨.ready,by rw[←hn els];exact zp _ _,by rw[wo (hn els)];exact hbd _,by rw[wo (hn els)];exact k1 h1⟩
 ·subst h2
  exact⟨.done ex,by rw[←hnD];exact zp _ _,by rw[wo hnD];exact hbdD,by rw[wo hnD];exact k2 h1⟩
theorem lvP_len(b:Bk):∀(r:Nat) (p:List Int),(lvP b r p).length≤4 ^ r:=by
 intro r
 induction r with
 |zero=>intro p;exact Nat.le_refl _
 |succ r ih=>
  intro p
  have h:∀j,(ptP b r p j).length≤j*4 ^ r:=by
   intro j
   induction j with
   |zero=>simp[ptP]
   |succ j ihj=>
    rw[zDJ,List.length_append,Nat.succ_mul]
    have:(if exB b p j=true then lvP b r (p++[(j:Int)])else []).length≤4 ^ r:=by
     split
     ·exact ih _
     ·exact Nat.zero_le _
    omega
  have:=h 4
  rw[Nat.pow_succ,Nat.mul_comm];exact this
end Go.Proofs.YtfbmlibilcjlgaaDoor.drumBounds

set_option linter.unusedVariables false
set_option linter.unusedSimpArgs false
set_option linter.constructorNameAsVariable false
namespace Go.Proofs.YtfbmlibilcjlgaaDoor.drumBounds
open Vam
variable {is:FuncId→Bool}{orc:Known}{b:Bk}
end Go.Proofs.YtfbmlibilcjlgaaDoor.drumBounds

set_option linter.unusedVariables false
set_option linter.unusedSimpArgs false
set_option linter.constructorNameAsVariable false
namespace Go.Proofs.YtfbmlibilcjlgaaDoor.drumBounds
open Vam
section
variable {is:FuncId→Bool}{orc:Known}{b:Bk}
end
section
variable {is:FuncId→Bool}{orc:Known}{b:Bk}
theorem lvP_pok(hb:BOk b):∀(r:Nat) (p L:List Int),((p.length+r:Nat):Int)=b.parts→Pre b p→L∈lvP b r p→POk b L:=by
 intro r
 induction r with
 |zero=>
  intro p L hpr hp hL
  rcases List.mem_singleton.1 (show L∈[p]from hL)with rfl
  exact hp.pok hb (by simpa using hpr)
 |succ r ih=>
  intro p L hpr hp hL
  obtain⟨d,hd,hL⟩:=List.mem_flatMap.1 (show L∈(List.range 4).flatMap _ from hL)
  have hd4:=List.mem_range.1 hd
  split at hL
  ·rename_i he
   exact ih _ L (by rw[List.length_append];simp at hpr ⊢;omega) (hp.snoc (by omega) he) hL
  ·cases hL
theorem paths_pok(hb:BOk b){L:List Int}(h:L∈paths b):POk b L:=by
 have:=hb.pa
 exact lvP_pok hb _ [] L (by simp;omega) (pre_nil b) h
theorem mem_lv(hb:BOk b){L:List Int}(hL:POk b L):∀(r:Nat) (p q:List Int),((p.length+r:Nat):Int)=b.parts→L=p++q→L∈lvP b r p:=by
 have hlen:=hL.len
 intro r
 induction r with
 |zero=>
  intro p q hpr e
  have hq:q=[]:=by
   have:L.length=p.length+q.length:=by rw[e,List.length_append]
   refine List.eq_nil_of_length_eq_zero ?_
   simp at hpr;omega
  subst hq
  rw[List.append_nil]at e
  exact List.mem_singleton.2 e
 |succ r ih=>
  intro p q hpr e
  have hLl:L.length=p.length+q.length:=by rw[e,List.length_append]
  cases q with
  |nil=>simp at hLl hpr;omega
  |cons d q=>
   have hat:L[p.length]? =some d:=by rw[e];simp
   have hd:=hL.rg d (List.mem_of_getElem? hat)
   obtain⟨n,rfl⟩:∃n:Nat,d=n:=⟨d.toNat,by omega⟩
   refine List.mem_flatMap.2 ⟨n,List.mem_range.2 (by omega),?_⟩
   have hex:exB b p n=true:=by
    unfold exB
    rw[Bool.and_eq_true,Bool.or_eq_true,Bool.or_eq_true]
    by_cases h0:p.length=0
    ·refine⟨.inr (decide_eq_true ?_),.inl (decide_eq_true h0)⟩
     have:=hL.st
     rw[h0]at hat
     rw[hat]at this;exact Option.some.inj this
    ·refine⟨.inl (decide_eq_true (by omega)),.inr (decide_eq_true ?_)⟩
     obtain⟨x,hx⟩:∃x,p[p.length - 1]? =some x:=⟨p[p.length - 1],List.getElem?_eq_getElem (by omega)⟩
     have hx2:L[p.length - 1]? =some x:=by rw[e,List.getElem?_append_left (by omega)];exact hx
     have:=hL.nr (p.length - 1) x n hx2 (by rw[show p.length - 1+1=p.length by omega];exact hat)
     rw[hx]
     unfold zCe
     simp only[Option.getD_some]
     omega
   rw[if_pos hex]
   exact ih (p++[(n:Int)]) q (by rw[List.length_append];simp at hpr ⊢;omega) (by rw[e];simp)
theorem mem_paths(hb:BOk b){L:List Int}:L∈paths b↔POk b L:=by
 have:=hb.pa
 exact⟨paths_pok hb,fun h=>mem_lv hb h _ [] L (by simp;omega) rfl⟩
theorem mem_plans(hb:BOk b){L:List Int}:L∈zEc b↔POk b L∧zBh b L=true:=by
 unfold zEc
 rw[List.mem_filter,mem_paths hb]
end
end Go.Proofs.YtfbmlibilcjlgaaDoor.drumBounds

set_option linter.unusedVariables false
set_option linter.unusedSimpArgs false
set_option linter.constructorNameAsVariable false
namespace Go.Proofs.YtfbmlibilcjlgaaDoor.drumBounds
open Vam
variable {is:FuncId→Bool}{orc:Known}
theorem lat_nil{f:Nat→Int}:∀n,latS f n=[]↔ ∀i,i<n→f i≤0:=by
 intro n
 constructor
 ·intro h i hi
  by_cases hf:0<f i
  ·have:=(mem_lat (f:=f) (n:=n) (i:=i)).2 ⟨hi,hf⟩
   rw[h]at this;cases this
  ·omega
 ·intro h
  cases hl:latS f n with
  |nil=>rfl
  |cons x l=>
   have hx:x∈latS f n:=by rw[hl];exact List.mem_cons_self
   have hb:=lat_lt x hx
   obtain⟨i,rfl⟩:∃i:Nat,x=i:=⟨x.toNat,by omega⟩
   have:=mem_lat.1 hx
   have:=h i this.1
   omega
theorem zero_lat{b:Bk}(hb:BOk b){L:List Int}(hL:∀x∈L,0≤x∧x≤3)(N:Nat):zeroB (aftF b true L N)=decide ((latS (aftF b true L N) b.players.length).length=0):=by
 have hpn:=hb.pn
 have hz:∀i,0≤aftF b true L N i∧(b.players.length≤i→aftF b true L N i=0):=fun i=>by
  unfold aftF
  constructor
  ·cases hp:b.players[i]? with
   |none=>exact Int.le_refl _
   |some p=>exact(aft_b hb true L hL (pl_ok hb hp) N).1
  ·intro h;rw[List.getElem?_eq_none h]
 generalize aftF b true L N=f at*
 have e:(latS f b.players.length).length=0↔ ∀i,i<b.players.length→f i≤0:=by rw[List.length_eq_zero_iff];exact lat_nil _
 have k:(f 0=0∧f 1=0∧f 2=0∧f 3=0∧f 4=0)↔ ∀i,i<b.players.length→f i≤0:=by
  constructor
  ·intro h i hi
   have hi5:i=0∨i=1∨i=2∨i=3∨i=4:=by omega
   rcases hi5 with rfl|rfl|rfl|rfl|rfl<;>omega
  ·intro h
   have g:∀i,f i=0:=fun i=>by
    have h1:=hz i
    by_cases hi:i<b.players.length
    ·have:=h i hi;omega
    ·exact h1.2 (by omega)
   exact⟨g 0,g 1,g 2,g 3,g 4⟩
 have d:decide (f 0=0∧f 1=0∧f 2=0∧f 3=0∧f 4=0)=decide ((latS f b.players.length).length=0):=decide_eq_decide.2 (k.trans e.symm)
 unfold zeroB
 rw[←d]
 simp only[Bool.decide_and]
end Go.Proofs.YtfbmlibilcjlgaaDoor.drumBounds
