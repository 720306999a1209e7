import Derived.Test.YtinhcdijbcamaaaVamT7
set_option linter.unusedVariables false
set_option linter.unusedSimpArgs false
set_option linter.constructorNameAsVariable false
namespace Go.Proofs.Ytinhcdijbcamaaa.tuneNarrower
open Vam
variable {is:FuncId→Bool}{orc:Known}
theorem fld111_0:zr Try.prog 111 0=some (0,109):=by kernel_rfl
theorem fld111_1:zr Try.prog 111 1=some (1,3):=by kernel_rfl
theorem sh109:shOf Try.prog 109=.one:=by kernel_rfl
noncomputable def b87:Code:=(Try.f87.body).getD .skip
theorem body87:bodyOf Try.prog 87=some (37,b87,[.tmp 8,.tmp 9]):=by kernel_rfl
theorem pure87:pureFn Try.prog 87=false:=by kernel_rfl
variable {t:Ts}{J:List Jn}{kn mp sv cn:Nat}{st Y Z:List SB}{v x fm:Int}
abbrev fnd(t:Ts)(J:List Jn)(n:Nat):List SB:=[.box (setC t J),.map [],.box [.mp (n+1)],.box [.fn 104 [] [.box (n+2) 0,.box n 0,.box (n+3) 0]]]
set_option maxHeartbeats 4000000 in
theorem wpc88(t:Ts)(J:List Jn)(st:List SB):WpC Try.prog is orc 88 [.agg (setC t J)] st fun u st'=>u=.fn 104 [] [.box (st.length+2) 0,.box st.length 0,.box (st.length+3) 0]∧st'=st++fnd t J st.length:=by
 refine wpc_of body88 pure88 rfl rfl ?_
 refine kQ (yH rfl rfl (zC rfl (zB ?_)))
 refine zM [(1,.box st.length 0)] (st++[.box (setC t J)]) (.cons rfl (.nil rfl)) rfl fun frx=>?_
 refine kQ (o_makeMap rfl ty131 ?_)
 refine zV rfl ze131 ?_
 refine o_store1 rfl (za _ _) sh131 rfl rfl ?_
 refine zB ?_
 refine zM [(1,.box st.length 0),(3,.box (st.length+2) 0)] (st++[.box (setC t J),.map [],.box [.mp (st.length+1)]]) (.cons rfl (.cons (by show U.box ((st++[SB.box (setC t J)])++[SB.map []]).length 0=_;simp) (.nil rfl))) (by
  show(((st++[SB.box (setC t J)])++[SB.map []])++[SB.box _]).set ((st++[SB.box (setC t J)])++[SB.map []]).length (SB.box [.mp (st++[SB.box (setC t J)]).length])=_
  rw[yN];simp) fun frx=>?_
 refine kQ (zV rfl ze107 ?_)
 refine zB ?_
 refine zM [(1,.box st.length 0),(3,.box (st.length+2) 0),(4,.box (st.length+3) 0)] ((st++[.box (setC t J),.map [],.box [.mp (st.length+1)]])++[.box [.nilf]]) (.c2 rfl rfl (.cons (by show U.box (st++[SB.box (setC t J),.map [],.box [.mp (st.length+1)]]).length 0=_;simp) (.nil rfl))) rfl fun frx=>?_
 refine kQ ?_
 refine o_func rfl ?_
 refine o_store1 rfl (cs:=[.nilf]) (by
  show((st++[.box (setC t J),.map [],.box [.mp (st.length+1)]])++[SB.box [.nilf]])[st.length+3]? =_
  rw[show st.length+3=(st++[SB.box (setC t J),.map [],.box [.mp (st.length+1)]]).length by simp];exact za _ _) sh107 rfl rfl ?_
 refine zB ?_
 refine zM [(4,.box (st.length+3) 0)] (st++fnd t J st.length) (.cons rfl (.nil rfl)) (by
  show((st++[SB.box (setC t J),.map [],.box [.mp (st.length+1)]])++[SB.box [.nilf]]).set (st.length+3) (SB.box [.fn 104 [] [.box (st.length+2) 0,.box st.length 0,.box (st.length+3) 0]])=_
  rw[show st.length+3=(st++[SB.box (setC t J),.map [],.box [.mp (st.length+1)]]).length by simp,yN,List.append_assoc];simp) fun frx=>?_
 refine kQ ?_
 refine zF rfl (cs:=[.fn 104 [] [.box (st.length+2) 0,.box st.length 0,.box (st.length+3) 0]]) rfl (by
  show(st++fnd t J st.length)[st.length+3]? =_
  rw[List.getElem?_append_right (by omega),show st.length+3 - st.length=3 by omega];rfl) sh107 rfl ?_
 refine zC rfl (zB (ze ?_))
 exact⟨.inr rfl,_,.cons _ _ _ _ (.tmp 2) .nil,_,.refl _,rfl,rfl⟩
theorem fnd_fs(hb:BdY st):FS t J (st.length+2) (st.length+1) st.length (st.length+3) (st++fnd t J st.length):=by
 have hl:(st++fnd t J st.length).length=st.length+4:=by simp
 refine⟨?_,⟨[],(fun p hp=>(by cases hp)),?_⟩,?_,?_,fun y hy=>?_⟩
 ·rw[List.getElem?_append_right (by omega),show st.length+2 - st.length=2 by omega];rfl
 ·rw[List.getElem?_append_right (by omega),show st.length+1 - st.length=1 by omega];rfl
 ·rw[List.getElem?_append_right (by omega),Nat.sub_self];rfl
 ·rw[List.getElem?_append_right (by omega),show st.length+3 - st.length=3 by omega];rfl
 ·rw[hl]
  rcases List.mem_append.1 hy with hy|hy
  ·exact BdS.mono (hb y hy) (by omega)
  ·simp only[List.mem_cons,List.not_mem_nil,or_false]at hy
   rcases hy with rfl|rfl|rfl|rfl
   ·exact(wO t J).bd _
   ·intro p hp;cases hp
   ·intro c hc;rcases List.mem_singleton.1 hc with rfl;exact Bd.mp (by omega)
   ·intro c hc
    rcases List.mem_singleton.1 hc with rfl
    refine Bd.fn (fun u hu=>by cases hu) fun u hu=>?_
    simp only[List.mem_cons,List.not_mem_nil,or_false]at hu
    rcases hu with rfl|rfl|rfl<;>exact Bd.box (by omega)
def pI(s:Bool)(lo hi:Int)(i:Nat):Int:=match s with|false=>lo+i|true=>hi - i
def utI(t:Ts)(J:List Jn)(s:Bool)(v:Int):Option Nat:=(List.range (hhiT t v+1 - hloT t v).toNat).find? fun i=>canS t J v (pI s (hloT t v) (hhiT t v) i) (-1)
def utP(t:Ts)(J:List Jn)(s:Bool)(v:Int):Int:=match utI t J s v with|some i=>pI s (hloT t v) (hhiT t v) i|none=>0
abbrev sdF(s:Bool):Nat:=match s with|false=>107|true=>108
abbrev sdI(s:Bool):Int:=match s with|false=>1|true=> -1
abbrev sideU(s:Bool):U:=.agg [.fn (sdF s) [] [],.int .i64 (sdI s)]
theorem retSd(hi:Off is)(s:Bool)(a b:Int):RetP Try.prog is orc (sdF s) [z9 a b] (.int .i64 (pI s a b 0)):=by
 cases s
 ·rw[show pI false a b 0=a by unfold pI;simp];exact ret107 hi a b
 ·rw[show pI true a b 0=b by unfold pI;simp];exact ret108 hi a b
theorem find_range{p:Nat→Bool}{n i:Nat}(hi:i<n)(h:p i=true)(hno:∀j,j<i→p j=false):(List.range n).find? p=some i:=by
 rw[List.find?_eq_some_iff_append]
 refine⟨h,List.range i,(List.range (n - i - 1)).map fun j=>i+1+j,?_,fun j hj=>by rw[hno j (List.mem_range.1 hj)];rfl⟩
 have e:n=i+(1+(n - i - 1)):=by omega
 rw[e,List.range_add,show i+(1+(n - i - 1)) - i - 1=n - i - 1 by omega]
 congr 1
 rw[List.range_add,List.map_append]
 simp[Nat.add_assoc]
theorem find_none{p:Nat→Bool}{n:Nat}(hno:∀j,j<n→p j=false):(List.range n).find? p=none:=by
 rw[List.find?_eq_none]
 intro j hj
 rw[hno j (List.mem_range.1 hj)];simp
end Go.Proofs.Ytinhcdijbcamaaa.tuneNarrower
namespace Go.Proofs.Ytinhcdijbcamaaa.tuneNarrower
open Vam
variable {is:FuncId→Bool}{orc:Known}
variable {t:Ts}{J:List Jn}{kn mp sv cn:Nat}{st Y Z:List SB}{v x fm:Int}
theorem nbs_side(s:Bool):NBS (.box [.fn (sdF s) [] [],.int .i64 (sdI s)]):=⟨_,rfl,fun c hc=>by
 simp only[List.mem_cons,List.not_mem_nil,or_false]at hc
 rcases hc with rfl|rfl
 ·exact nb_fn0 _
 ·exact NB.int _ _⟩
def utU(t:Ts)(J:List Jn)(s:Bool)(v:Int):U:=.tup [.int .i64 (utP t J s v),.bool (utI t J s v).isSome]
theorem Upd.take{L:List SB}(h:Upd t J mp (st++L) Y)(hm:mp<st.length):Upd t J mp st (Y.take st.length):=by
 obtain⟨es,he,rfl⟩:=h
 exact⟨es,he,by rw[List.set_append_left _ _ hm,List.take_left' (by simp)]⟩
set_option maxHeartbeats 16000000 in
theorem wpc87(hi:Off is)(h:SOk t J)(s:Bool)(hv:0≤v∧v<(t.heard.length:Int))(hF:FS t J kn mp sv cn st):
  WpC Try.prog is orc 87 [.agg (setC t J),.fn 104 [] [.box kn 0,.box sv 0,.box cn 0],.int .i64 v,sideU s] st fun u st'=>u=utU t J s v∧Upd t J mp st st':=by
 obtain⟨q,hq,eq1,eq2,qb⟩:=h.key hv
 have hlt:=hF.lt
 have qs:=retSd (orc:=orc) hi s q.a q.b
 have q49:=fun n=>ret49 (orc:=orc) hi q.a q.b n
 refine wpc_cut body87 pure87 rfl rfl ?_
 refine kQ (yH rfl rfl (yH rfl rfl (zC rfl (zC rfl (zB ?_)))))
 obtain⟨E,hE⟩:∃E,E=[SB.box (setC t J),SB.box [.fn (sdF s) [] [],.int .i64 (sdI s)]]:=⟨_,rfl⟩
 have hb0:(st++E)[st.length]? =some (.box (setC t J)):=by rw[hE,List.getElem?_append_right (by omega),Nat.sub_self];rfl
 have hb1:(st++E)[st.length+1]? =some (.box [.fn (sdF s) [] [],.int .i64 (sdI s)]):=by rw[hE,List.getElem?_append_right (by omega),show st.length+1 - st.length=1 by omega];rfl
 have hF0:FS t J kn mp sv cn (st++E):=by
  have:=(hF.snoc (wO t J)).snoc (nbs_side s)
  rw[List.append_assoc]at this
  rw[hE];exact this
 refine zM [(1,.fn 104 [] [.box kn 0,.box sv 0,.box cn 0]),(2,.int .i64 v),(4,.box st.length 0),(7,.box (st.length+1) 0)] (st++E) (.c2 rfl rfl (.cons rfl (.cons (by show U.box (st++[SB.box (setC t J)]).length 0=_;simp) (.nil rfl)))) (by rw[hE];show(st++[_])++[_]=_;rw[List.append_assoc];rfl) fun frx=>?_
 refine k_seq (k_draw [.plain,.read true,.plain,.plain,.read true,.plain,.plain,.read true,.plain,.plain] (by kernel_rfl) (by kernel_rfl) (by kernel_rfl) ?_)
 refine zE (zG rfl rfl fld111_0 (zB rfl)) ?_
 refine zi rfl (zF rfl rfl hb1 sh109 rfl (zB rfl)) ?_
 refine zE (zG rfl rfl wB (zB rfl)) ?_
 refine zE (zG rfl rfl yA (zB rfl)) ?_
 refine zi rfl (zF rfl rfl hb0 sh22 rfl (zB rfl)) ?_
 refine zE (zA rfl (zB rfl)) ?_
 refine zE (yr (u:=q.u) rfl ty22 rfl rfl (by omega) (by rw[List.getElem?_map,hq];rfl) cl26 (zB rfl)) ?_
 refine zi rfl (yC rfl rfl sh26 rfl (zB rfl)) ?_
 refine zE (o_callVR rfl rfl qs (.lrefl _) (zB rfl)) ?_
 refine zE (zC rfl (zB rfl)) ?_
 refine d_nil ?_
 refine k_seq (zP ?_)
 refine k_loop (fun kk s2=>∃(i:Nat),kk+i=(q.b+1 - q.a).toNat∧(∀j:Nat,j<i→canS t J v (pI s q.a q.b j) (-1)=false)∧FS t J kn mp sv cn s2.st∧Upd t J mp (st++E) s2.st∧
  Holds s2 [(1,.fn 104 [] [.box kn 0,.box sv 0,.box cn 0]),(2,.int .i64 v),(4,.box st.length 0),(7,.box (st.length+1) 0),(8,.int .i64 (pI s q.a q.b i))]) (fun kk s2 hI=>?_) (q.b+1 - q.a).toNat _ ⟨0,rfl,fun j hj=>absurd hj (Nat.not_lt_zero _),hF0,hF0.refl,.c4 rfl rfl rfl rfl (.cons rfl (.nil rfl))⟩
 obtain⟨i,hki,hno,hFS,hU,hs2⟩:=hI
 generalize hst2:s2.st=W at hFS hU
 refine zM _ _ hs2 hst2 fun fr2=>?_
 have hw0:=hU.at (by omega) hb0
 have hw1:=hU.at (by omega) hb1
 have hUc:=hU.take hlt.2.1
 have hbdc:∀y∈W.take st.length,BdS st.length y:=by
  obtain⟨es,he,e⟩:=hUc
  rw[e]
  have:=hF.bd.put (he.bd st.length) (i:=mp)
  unfold BdY at this
  rw[List.length_set]at this
  exact this
 have hWl:st.length≤W.length:=by
  obtain⟨es,he,e⟩:=hU
  rw[e,List.length_set];simp
 by_cases hin:i<(q.b+1 - q.a).toNat
 ·have hpb:q.a≤pI s q.a q.b i∧pI s q.a q.b i≤q.b:=by cases s<;>unfold pI<;>simp only<;>omega
  have q49:=ret49 (orc:=orc) hi q.a q.b (pI s q.a q.b i)
  rw[decide_eq_true hpb.1,decide_eq_true hpb.2]at q49
  have hcall:WpC Try.prog is orc 104 [z8 v (pI s q.a q.b i) (-1),.box kn 0,.box sv 0,.box cn 0] W fun u st'=>u=.bool (canS t J v (pI s q.a q.b i) (-1))∧Upd t J mp W st':=wpc104 h 8 is orc hi v _ [] W (.one v) hv (by simp) (by omega) hFS
  have hnx:pI s q.a q.b i+sdI s=pI s q.a q.b (i+1):=by cases s<;>unfold pI sdI<;>simp only<;>omega
  refine k_seq (kQ (zG rfl rfl wB (zG rfl rfl yA (zF rfl rfl hw0 sh22 rfl ?_))))
  refine zA rfl ?_
  refine yr (u:=q.u) rfl ty22 rfl rfl (by omega) (by rw[List.getElem?_map,hq];rfl) cl26 ?_
  refine yC rfl rfl sh26 rfl ?_
  refine zA rfl (zX rfl (q49) (.lrefl _) (zB (k_cT rfl rfl ?_)))
  refine zW (zP (k_seq (kQ (zA rfl (zA rfl (zA rfl (yP rfl ze115 pl115 rfl rfl ?_)))))))
  refine o_callV rfl rfl hcall (.lrefl _) fun u st1 hM=>?_
  obtain⟨rfl,hU1⟩:=hM
  have hr1:=hU1.at (by omega) hw1
  have hFS1:=hFS.upd hU1
  have hU2:=hU.trans hU1
  have hU2c:=hU2.take hlt.2.1
  cases hc:canS t J v (pI s q.a q.b i) (-1)with
  |true=>
   refine zB (k_cT rfl rfl ?_)
   refine kQ (zA rfl (zC rfl (zC rfl (zB (ze ?_)))))
   refine⟨.inr rfl,_,.cons _ _ _ _ (.tmp 8) (.cons _ _ _ _ (.tmp 9) .nil),?_⟩
   have hut:utI t J s v=some i:=find_range (by rw[eq1,eq2];exact hin) (by rw[eq1,eq2];exact hc) (fun j hj=>by rw[eq1,eq2];exact hno j hj)
   refine⟨_,.refl _,Bd.tup fun c hc=>?_,?_,?_,?_,?_⟩
   ·simp only[List.mem_cons,List.not_mem_nil,or_false]at hc
    rcases hc with rfl|rfl
    ·exact Bd.int _ _ _
    ·exact Bd.bool _ _
   ·show st.length≤st1.length
    obtain⟨es,he,e⟩:=hU2
    rw[e,List.length_set];simp
   ·show ∀y∈st1.take st.length,BdS st.length y
    obtain⟨es,he,e⟩:=hU2c
    rw[e]
    have:=hF.bd.put (he.bd st.length) (i:=mp)
    unfold BdY at this
    rw[List.length_set]at this
    exact this
   ·show U.tup [.int .i64 (pI s q.a q.b i),.bool true]=_
    unfold utU utP;rw[hut,eq1,eq2];rfl
   ·exact hU2c
  |false=>
   refine zB (k_cF rfl rfl ?_)
   refine zW (k_region (zA rfl (zG rfl rfl fld111_1 (zF rfl rfl hr1 sh3 rfl ?_))))
   refine o_add rfl rfl rfl (by rw[hnx];cases s<;>unfold pI I64<;>simp only<;>omega) ?_
   refine zC rfl (zB ?_)
   exact⟨kk - 1,by omega,i+1,by omega,fun j hj=>by
    by_cases e:j=i
    ·subst e;exact hc
    ·exact hno j (by omega),hFS1,hU2,.c4 rfl rfl rfl rfl (.cons (congrArg (U.int .i64) hnx) (.nil rfl))⟩
 ·have hpb: ¬ (q.a≤pI s q.a q.b i∧pI s q.a q.b i≤q.b):=by cases s<;>unfold pI<;>simp only<;>omega
  have q49:RetP Try.prog is orc 49 [z9 q.a q.b,.int .i64 (pI s q.a q.b i)] (.bool false):=by
   have:=ret49 (is:=is) (orc:=orc) hi q.a q.b (pI s q.a q.b i)
   have e:(decide (q.a≤pI s q.a q.b i)&&decide (pI s q.a q.b i≤q.b))=false:=by
    rw[←Bool.not_eq_true,Bool.and_eq_true,decide_eq_true_eq,decide_eq_true_eq];exact hpb
   rwa [e]at this
  refine k_seq (kQ (zG rfl rfl wB (zG rfl rfl yA (zF rfl rfl hw0 sh22 rfl ?_))))
  refine zA rfl ?_
  refine yr (u:=q.u) rfl ty22 rfl rfl (by omega) (by rw[List.getElem?_map,hq];rfl) cl26 ?_
  refine yC rfl rfl sh26 rfl ?_
  refine zA rfl (zX rfl (q49) (.lrefl _) (zB (k_cF rfl rfl ?_)))
  refine yp (kQ (zC rfl (zC rfl (zB (ze ?_)))))
  refine⟨.inr rfl,_,.cons _ _ _ _ (.tmp 8) (.cons _ _ _ _ (.tmp 9) .nil),?_⟩
  have hiN:i=(q.b+1 - q.a).toNat:=by omega
  have hut:utI t J s v=none:=find_none (fun j hj=>by rw[eq1,eq2]at hj ⊢;exact hno j (by omega))
  refine⟨_,.refl _,Bd.tup fun c hc=>?_,hWl,hbdc,?_,hUc⟩
  ·simp only[List.mem_cons,List.not_mem_nil,or_false]at hc
   rcases hc with rfl|rfl
   ·exact Bd.int _ _ _
   ·exact Bd.bool _ _
  ·show U.tup [.int .i64 0,.bool false]=_
   unfold utU utP;rw[hut];rfl
end Go.Proofs.Ytinhcdijbcamaaa.tuneNarrower
namespace Vam
open Go
section
variable {P:Program}{is:FuncId→Bool}{orc:Known}{s:St}
theorem wp{all:List Oper}{l:List (Oper×M0)}{d:Option Nat}{g:FuncId}{xs:Array Operand}{ts:Array TypeId}{t:TypeId}{p:String}{e:Array Edge}{args:List U}{M:U→List SB→Prop}{Q:St→Prop}(hd:okDst 1024 d=true)
  (hw:WpC P is orc g args s.st M) (hle:UW (.l (evalUs s xs.toList)) (.l args)) (k:∀u st',M u st'→WpD P is orc all l ((⟨s.fr,[],st'⟩:St).dst d u) Q):
  WpD P is orc all ((⟨d,.call ⟨.value (.func g),xs,ts⟩,t,p,e,none⟩,.plain)::l) s Q:=
 d_plainE (fun s1=>∃u st',M u st'∧s1=(⟨s.fr,[],st'⟩:St).dst d u) (o_callW hd hw hle fun u st' hM=>zB ⟨u,st',hM,rfl⟩) fun s1 ⟨u,st',hM,e⟩=>by subst e;exact k u st' hM
end
end Vam
namespace Go.Proofs.Ytinhcdijbcamaaa.tuneNarrower
open Vam
variable {is:FuncId→Bool}{orc:Known}
noncomputable def b65:Code:=(Try.f65.body).getD .skip
theorem body65:bodyOf Try.prog 65=some (27,b65,[.tmp 2]):=by kernel_rfl
theorem pure65:pureFn Try.prog 65=true:=by kernel_rfl
noncomputable def b63:Code:=(Try.f63.body).getD .skip
theorem body63:bodyOf Try.prog 63=some (31,b63,[.cell 4 26]):=by kernel_rfl
theorem pure63:pureFn Try.prog 63=true:=by kernel_rfl
variable {t:Ts}{J:List Jn}{kn mp sv cn:Nat}{st Y Z:List SB}{v x fm:Int}
def tunB(t:Ts)(J:List Jn):Bool:=(List.range t.heard.length).all fun v:Nat=>(utI t J false v).isSome
theorem fs0(t:Ts)(J:List Jn):FS t J 3 2 1 4 ([.box (setC t J)]++fnd t J 1):=fnd_fs (st:=[.box (setC t J)]) fun y hy=>by
 rcases List.mem_singleton.1 hy with rfl;exact(wO t J).bd _
set_option maxHeartbeats 8000000 in
theorem ret65(hi:Off is)(h:SOk t J):RetP Try.prog is orc 65 [.agg (setC t J)] (.bool (tunB t J)):=by
 have hn8:=h.n8
 refine yQ body65 pure65 (hi 65 (by decide)) rfl rfl (y6 (wm t J 4)) (.inl (.bool _ _)) ?_
 refine kQ (yH rfl rfl (zC rfl (zB ?_)))
 refine zM [(1,.box 0 0)] ([SB.box [.lst .ro 2 (zS t.heard),.lst .ro 2 (yg t.scales),.lst .ro 2 (zS t.pairs),.int .i64 t.lo,.int .i64 t.hi,.lst .ro 5 (jnsU J)]]) (.cons rfl (.nil rfl)) rfl fun fr=>?_
 refine kQ (zK rfl rfl rfl sh84 rfl ?_)
 (refine o_callW rfl (wpc88 t J [.box (setC t J)]) (.lrefl _) (fun u st1 hM=>?_);obtain⟨rfl,rfl⟩:=hM)
 refine zC rfl (zB (k_seq (kQ (zG rfl rfl wB (zG rfl rfl yA (zF rfl rfl rfl sh22 rfl (yZ rfl ty22 rfl (List.length_map _) ?_)))))))
 refine zA rfl (zB (zP ?_))
 refine k_loop (fun k s2=>∃(i:Nat),k+i=t.heard.length∧((List.range i).all fun v:Nat=>(utI t J false v).isSome)=true∧FS t J 3 2 1 4 s2.st∧s2.st[0]? =some (.box (setC t J))∧Holds s2 [(1,.box 0 0),(3,.fn 104 [] [.box 3 0,.box 1 0,.box 4 0]),(12,.int .i64 t.heard.length),(13,.int .i64 i)]) (fun k s2 hI=>?_) t.heard.length _ ⟨0,rfl,rfl,fs0 t J,rfl,.c4 rfl rfl rfl rfl (.nil rfl)⟩
 obtain⟨i,hki,hall,hFS,h0,hs2⟩:=hI
 generalize hst2:s2.st=W at hFS h0
 refine zM _ _ hs2 hst2 fun fr2=>?_
 by_cases hin:i<t.heard.length
 ·have hw:=wpc87 (orc:=orc) hi h false (v:=(i:Int)) (by omega) hFS
  refine kQ (zt rfl rfl rfl (zB (k_seq (k_cT rfl (decide_eq_true (by omega)) (zW (k_seq (zP (kQ ?_))))))))
  refine zA rfl (zC rfl (zB (k_seq (k_draw [.read true,.plain,.plain,.quiet,.plain,.plain,.plain,.plain,.plain,.plain] (by kernel_rfl) (by kernel_rfl) (by kernel_rfl) ?_))))
  refine zi rfl (zK rfl rfl h0 sh84 rfl (zB rfl)) ?_
  refine zE (zA rfl (zB rfl)) (zE (zA rfl (zB rfl)) (d_callQ rfl (ret89 hi) (.lrefl _) ?_))
  refine wp rfl hw (.lrefl _) fun u st1 hM=>?_
  obtain⟨rfl,hU⟩:=hM
  have hFS1:=hFS.upd hU
  have h01:=hU.at (by decide) h0
  cases hut:utI t J false (i:Int)with
  |none=>
   have hf:tunB t J=false:=by
    unfold tunB
    rw[List.all_eq_false]
    exact⟨i,List.mem_range.2 hin,by rw[hut];simp⟩
   have e:utU t J false (i:Int)=.tup [.int .i64 0,.bool false]:=by unfold utU utP;rw[hut];rfl
   rw[e,hf]
   refine zE (zA rfl (zB rfl)) (zE (zY rfl rfl rfl (zB rfl)) ?_)
   refine zE (zY rfl rfl rfl (zB rfl)) ?_
   refine zE (zC rfl (zB rfl)) ?_
   refine zE (zC rfl (zB rfl)) ?_
   refine d_nil ?_
   refine kQ (zA rfl (o_not rfl rfl (zB ?_)))
   refine zM [(1,.box 0 0),(3,.fn 104 [] [U.box 3 0,U.box 1 0,U.box 4 0]),(12,.int .i64 ↑t.heard.length),(13,.int .i64 ↑i),(25,.bool !Bool.false)] (st1) (.c4 rfl rfl rfl rfl (.cons rfl (.nil rfl))) rfl fun fr=>?_
   refine k_cT rfl rfl ?_
   refine kQ (zC rfl (zB (ze ?_)))
   refine⟨.inr rfl,_,.cons _ _ _ _ (.tmp 2) .nil,?_⟩
   exact .refl _
  |some p=>
   have e:utU t J false (i:Int)=.tup [.int .i64 (utP t J false i),.bool true]:=by unfold utU;rw[hut];rfl
   rw[e]
   refine zE (zA rfl (zB rfl)) (zE (zY rfl rfl rfl (zB rfl)) ?_)
   refine zE (zY rfl rfl rfl (zB rfl)) ?_
   refine zE (zC rfl (zB rfl)) ?_
   refine zE (zC rfl (zB rfl)) ?_
   refine d_nil ?_
   refine kQ (zA rfl (o_not rfl rfl (zB ?_)))
   refine zM [(1,.box 0 0),(3,.fn 104 [] [U.box 3 0,U.box 1 0,U.box 4 0]),(12,.int .i64 ↑t.heard.length),(13,.int .i64 ↑i),(25,.bool !Bool.true)] (st1) (.c4 rfl rfl rfl rfl (.cons rfl (.nil rfl))) rfl fun fr=>?_
   refine k_cF rfl rfl ?_
   refine zW (k_region ?_)
   refine o_add rfl rfl rfl (by unfold I64;omega) (zA rfl (zB ?_))
   exact⟨k - 1,by omega,i+1,by omega,by rw[List.range_succ,List.all_append,hall];simp[hut],hFS1,h01,.c4 rfl rfl rfl rfl (.nil rfl)⟩
 ·have hin:i=t.heard.length:=by omega
  subst hin
  have hf:tunB t J=true:=hall
  rw[hf]
  refine kQ (zt rfl rfl rfl (zB (k_seq (k_cF rfl (decide_eq_false (by omega)) (yp (kQ (zC rfl (zB ?_))))))))
  refine ze ?_
  refine⟨.inr rfl,_,.cons _ _ _ _ (.tmp 2) .nil,?_⟩
  exact .refl _
set_option maxHeartbeats 8000000 in
theorem ret63(hi:Off is)(h:SOk t J)(hv:0≤v∧v<(t.heard.length:Int)):RetP Try.prog is orc 63 [.agg (setC t J),.int .i64 v] (z9 (utP t J false v) (utP t J true v)):=by
 have hn8:=h.n8
 refine yQ body63 pure63 (hi 63 (by decide)) rfl rfl (z4 (wm t J 4) (.int _ _ _)) (.inl (yf _ _ _)) ?_
 refine kQ (yH rfl rfl (zV rfl ze26 ?_))
 refine zB ?_
 refine zM [(1,.int .i64 v),(2,U.box 0 0),(4,U.box 1 0)] ([SB.box [.lst .ro 2 (zS t.heard),.lst .ro 2 (yg t.scales),.lst .ro 2 (zS t.pairs),.int .i64 t.lo,.int .i64 t.hi,.lst .ro 5 (jnsU J)],SB.box [.int .i64 0,.int .i64 0]]) (.c2 rfl rfl (.cons rfl (.nil rfl))) rfl fun fr=>?_
 refine kQ (zK rfl rfl rfl sh84 rfl ?_)
 (refine o_callW rfl (wpc88 t J [.box (setC t J),.box [.int .i64 0,.int .i64 0]]) (.lrefl _) (fun u st1 hM=>?_);obtain⟨rfl,rfl⟩:=hM)
 refine zC rfl (zB (k_seq (k_draw [.read true,.plain,.plain,.quiet,.plain,.plain,.plain,.plain,.plain,.plain] (by kernel_rfl) (by kernel_rfl) (by kernel_rfl) ?_)))
 refine zi rfl (zK rfl rfl rfl sh84 rfl (zB rfl)) ?_
 refine zE (zA rfl (zB rfl)) (zE (zA rfl (zB rfl)) (d_callQ rfl (ret89 hi) (.lrefl _) ?_))
 have hFS:FS t J 4 3 2 5 ([.box (setC t J),.box [.int .i64 0,.int .i64 0]]++fnd t J 2):=fnd_fs (st:=[.box (setC t J),.box [.int .i64 0,.int .i64 0]]) fun y hy=>by
  simp only[List.mem_cons,List.not_mem_nil,or_false]at hy
  rcases hy with rfl|rfl
  ·exact(wO t J).bd _
  ·intro c hc;simp only[List.mem_cons,List.not_mem_nil,or_false]at hc;rcases hc with rfl|rfl<;>exact Bd.int _ _ _
 have hs0:([SB.box (setC t J),.box [.int .i64 0,.int .i64 0]]++fnd t J 2)[0]? =some (.box (setC t J)):=rfl
 have hs1:([SB.box (setC t J),.box [.int .i64 0,.int .i64 0]]++fnd t J 2)[1]? =some (.box [.int .i64 0,.int .i64 0]):=rfl
 have hw:=wpc87 (orc:=orc) hi h false hv hFS
 refine wp rfl hw (.lrefl _) fun u st1 hM=>?_
 obtain⟨rfl,hU⟩:=hM
 have hFS1:=hFS.upd hU
 have h01:=hU.at (by decide) hs0
 have h11:=hU.at (by decide) hs1
 refine zE (zA rfl (zB rfl)) (zE (zY rfl rfl rfl (zB rfl)) ?_)
 refine zE (zY rfl rfl rfl (zB rfl)) ?_
 refine zE (zC rfl (zB rfl)) ?_
 refine zE (zC rfl (zB rfl)) ?_
 refine d_nil ?_
 refine k_seq (k_draw [.read true,.plain,.plain,.quiet,.plain,.plain,.plain,.plain,.plain,.plain] (by kernel_rfl) (by kernel_rfl) (by kernel_rfl) ?_)
 refine zi rfl (zK rfl rfl h01 sh84 rfl (zB rfl)) ?_
 refine zE (zA rfl (zB rfl)) (zE (zA rfl (zB rfl)) (d_callQ rfl (ret90 hi) (.lrefl _) ?_))
 have hw2:=wpc87 (orc:=orc) hi h true hv hFS1
 refine wp rfl hw2 (.lrefl _) fun u st2 hM=>?_
 obtain⟨rfl,hU2⟩:=hM
 have h12:=hU2.at (by decide) h11
 refine zE (zA rfl (zB rfl)) (zE (zY rfl rfl rfl (zB rfl)) ?_)
 refine zE (zY rfl rfl rfl (zB rfl)) ?_
 refine zE (zC rfl (zB rfl)) ?_
 refine zE (zC rfl (zB rfl)) ?_
 refine d_nil ?_
 refine kQ (zA rfl (zA rfl (yP rfl ze26 pl26 rfl rfl ?_)))
 refine zN rfl h12 sh26 rfl rfl rfl rfl rfl ?_
 refine zB (ze ?_)
 refine⟨.inr rfl,_,.cons _ _ _ _ (.cellN 4 26 _ _ _ _ rfl (at_put h12) sh26 rfl) .nil,?_⟩
 exact .refl _
end Go.Proofs.Ytinhcdijbcamaaa.tuneNarrower
namespace Vam
open Go
section
variable {Pr:Prt}{φ:BMap}{S:SMap}{tm:TT}{H:CH}{P:Program}{is:FuncId→Bool}{orc:Known}{s:St}
theorem o_eqNil{all l:List Oper}{d:Nat}{x y:Operand}{xt yt t el:TypeId}{p:String}{e:Array Edge}{k:Kd}{z:Nat}{es:List U}{Q:St→Prop}(hd:Nat.blt d 1024=true)(ht:tyOf P xt=.slice el)(hx:zR s x=.lst k z es)(hy:∀tm,zH tm y=.nils)
  (h:∀b:Bool,(es≠[]→b=false)→WpO P is orc all l (s.put d (.bool b)) Q):WpO P is orc all (⟨some d,.binOp .eql xt x y yt,t,p,e,none⟩::l) s Q:=by
 refine o_op (R:=fun u s1=>∃b:Bool,u=.bool b∧s1=s∧(es≠[]→b=false)) hd ?_ fun u s1 h1=>by obtain⟨b,rfl,rfl,h2⟩:=h1;exact h b h2
 intro Pr φ S tm H hs
 have hv:=zJ hs x
 rw[hx]at hv
 have hE:∀v:V,(∀b,isNils none (fun a=>isNils none (nilEq a) .nils) v=some b→eqT P xt v .nils=some b):=fun v b hb=>by
  show eqStep P _ xt v .nils=_
  unfold eqStep
  rw[ht];exact hb
 have key:∃b:Bool,binV P xt .eql (zH tm x) (zH tm y)=some (.bool b)∧(es≠[]→b=false):=by
  rw[hy tm]
  rcases lst_of hv with ⟨rfl,h1|⟨_,cc,_,h1⟩⟩|⟨b,off,cc,m,l1,l2,h1,_⟩
  ·refine⟨true,?_,fun h=>absurd rfl h⟩
   rw[h1]
   show opt none (fun b=>some (V.bool b)) (eqT P xt .nils .nils)=_
   rw[hE .nils true rfl];rfl
  ·refine⟨false,?_,fun _=>rfl⟩
   rw[h1]
   show opt none (fun b=>some (V.bool b)) (eqT P xt (.slice .over 0 0 cc z) .nils)=_
   rw[hE _ false rfl];rfl
  ·refine⟨false,?_,fun _=>rfl⟩
   rw[h1]
   show opt none (fun b=>some (V.bool b)) (eqT P xt (.slice b off es.length cc z) .nils)=_
   rw[hE _ false rfl];rfl
 obtain⟨b,h1,h2⟩:=key
 exact⟨.bool b,.bool b,s,H,φ,S,⟨0,fun n _=>by show zw H (binV P xt .eql (zH tm x) (zH tm y))=_;rw[h1];rfl⟩,hs,φ.le_refl,S.le_refl,Kept.refl _ _,.bool b,NewOk.none rfl,b,rfl,rfl,h2⟩
end
end Vam
