import Derived.Test.YtlknfhjfkcboiaaDoorVamT9
set_option linter.unusedVariables false
set_option linter.unusedSimpArgs false
set_option linter.constructorNameAsVariable false
namespace Go.Proofs.YtlknfhjfkcboiaaDoor.nightLeast
open Vam
section
variable {is:FuncId→Bool}{orc:Known}
noncomputable def b37:Code:=(Tryd.f37.body).getD .skip
theorem body37:bodyOf Tryd.prog 37=some (41,b37,[.tmp 4]):=by kernel_rfl
theorem pure37:pureFn Tryd.prog 37=true:=by kernel_rfl
noncomputable def b7:Code:=(Tryd.f7.body).getD .skip
theorem body7:bodyOf Tryd.prog 7=some (94,b7,[.tmp 4]):=by kernel_rfl
theorem pure7:pureFn Tryd.prog 7=true:=by kernel_rfl
set_option maxHeartbeats 8000000 in
theorem ret37(hi:Off is)(l m:List Int)(hl:l.length≤4096)(hm:m.length≤4096):RetP Tryd.prog is orc 37 [.lst .ro 1 (zA l),.lst .ro 1 (zA m)] (.bool (zAp l m)):=by
 refine yD body37 pure37 (hi 37 (by decide)) rfl rfl (yb (zd 6 .ro (fun h=>by cases h) 1 l) (zd 6 .ro (fun h=>by cases h) 1 m)) (.inl (.bool _ _)) ?_
 generalize hz:zAp l m=z
 refine kQ (zC rfl (zD (k_seq (kQ (zC rfl (zD (zM ?_)))))))
 refine ym (fun kk s2=>∃i:Nat,kk+i=l.length∧i≤m.length∧z=zAp (l.drop i) (m.drop i)∧s2.st=[]∧Holds s2 [(0,.lst .ro 1 (zA l)),(1,.lst .ro 1 (zA m)),(5,.int .i64 i)]) (fun kk s2 hI=>?_) l.length _ ⟨0,rfl,Nat.zero_le _,hz.symm,rfl,.cons rfl (.cons rfl (.cons rfl (.nil rfl)))⟩
 obtain⟨i,hk,him,hw,hst2,hs2⟩:=hI
 clear hz
 refine zN _ _ hs2 hst2 fun fr2=>?_
 by_cases hin:i<l.length
 ·obtain⟨x,hx⟩:∃x,l[i]? =some x:=⟨l[i],List.getElem?_eq_getElem hin⟩
  rw[zBU hx]at hw
  by_cases hin2:i<m.length
  ·obtain⟨y,hy⟩:∃y,m[i]? =some y:=⟨m[i],List.getElem?_eq_getElem hin2⟩
   rw[zBU hy]at hw
   have es:zAp (x::l.drop (i+1)) (y::m.drop (i+1))=if x≠y then decide (x<y)else zAp (l.drop (i+1)) (m.drop (i+1)):=rfl
   by_cases e:x=y
   ·rw[es,if_neg (by simp[e])]at hw
    refine k_seq (kQ (zB rfl (zB rfl (zb rfl ty22 rfl (List.length_map _) ?_))))
    refine zX rfl rfl rfl (zB rfl (o_gD rfl rfl rfl rfl (decide_eq_true (by omega)) ?_))
    refine zB rfl (o_gD rfl rfl rfl rfl (decide_eq_true (by omega)) ?_)
    refine zB rfl (o_gD rfl rfl rfl rfl (decide_eq_true (by omega)) ?_)
    refine zb rfl ty22 rfl (List.length_map _) ?_
    refine o_gD rfl rfl rfl rfl (decide_eq_true (by omega)) ?_
    refine zX rfl rfl rfl (zQ rfl rfl (decide_eq_true (by omega)) ?_)
    refine zD (k_cT rfl (decide_eq_true (by omega)) (zO (k_seq (zM (k_seq (zAu [.plain,.plain,.plain,.read true,.plain,.plain,.plain,.read true,.plain] (by kernel_rfl) (by kernel_rfl) (by kernel_rfl) ?_))))))
    refine zK (zB rfl (zD rfl)) (zK (zB rfl (zD rfl)) (zK (zp (u:=.int .i64 (x)) rfl ty22 rfl rfl (Int.natCast_nonneg _) (by simp[hx]) cl3 (zD rfl)) ?_))
    refine yN rfl (zU rfl rfl sh3 rfl (zD rfl)) ?_
    refine zK (zB rfl (zD rfl)) (zK (zB rfl (zD rfl)) (zK (zp (u:=.int .i64 (y)) rfl ty22 rfl rfl (Int.natCast_nonneg _) (by simp[hy]) cl3 (zD rfl)) ?_))
    refine yN rfl (zU rfl rfl sh3 rfl (zD rfl)) ?_
    refine zK (yy rfl rfl rfl (zD rfl)) ?_
    refine zDT ?_
    refine k_cF rfl (decide_eq_false (by omega)) (zO (k_region (zB rfl ?_)))
    refine yZ rfl rfl rfl (by unfold I64;omega) (zC rfl (zD ?_))
    exact⟨kk - 1,by omega,i+1,by omega,by omega,hw,rfl,.cons rfl (.cons rfl (.cons rfl (.nil rfl)))⟩
   ·rw[es,if_pos e]at hw
    subst hw
    refine k_seq (kQ (zB rfl (zB rfl (zb rfl ty22 rfl (List.length_map _) ?_))))
    refine zX rfl rfl rfl (zB rfl (o_gD rfl rfl rfl rfl (decide_eq_true (by omega)) ?_))
    refine zB rfl (o_gD rfl rfl rfl rfl (decide_eq_true (by omega)) ?_)
    refine zB rfl (o_gD rfl rfl rfl rfl (decide_eq_true (by omega)) ?_)
    refine zb rfl ty22 rfl (List.length_map _) ?_
    refine o_gD rfl rfl rfl rfl (decide_eq_true (by omega)) ?_
    refine zX rfl rfl rfl (zQ rfl rfl (decide_eq_true (by omega)) ?_)
    refine zD (k_cT rfl (decide_eq_true (by omega)) (zO (k_seq (zM (k_seq (zAu [.plain,.plain,.plain,.read true,.plain,.plain,.plain,.read true,.plain] (by kernel_rfl) (by kernel_rfl) (by kernel_rfl) ?_))))))
    refine zK (zB rfl (zD rfl)) (zK (zB rfl (zD rfl)) (zK (zp (u:=.int .i64 (x)) rfl ty22 rfl rfl (Int.natCast_nonneg _) (by simp[hx]) cl3 (zD rfl)) ?_))
    refine yN rfl (zU rfl rfl sh3 rfl (zD rfl)) ?_
    refine zK (zB rfl (zD rfl)) (zK (zB rfl (zD rfl)) (zK (zp (u:=.int .i64 (y)) rfl ty22 rfl rfl (Int.natCast_nonneg _) (by simp[hy]) cl3 (zD rfl)) ?_))
    refine yN rfl (zU rfl rfl sh3 rfl (zD rfl)) ?_
    refine zK (yy rfl rfl rfl (zD rfl)) ?_
    refine zDT ?_
    refine k_cT rfl (decide_eq_true (by omega)) (k_seq (zAu [.plain,.plain,.plain,.read true,.plain,.plain,.plain,.read true,.plain,.plain] (by kernel_rfl) (by kernel_rfl) (by kernel_rfl) ?_))
    refine zK (zB rfl (zD rfl)) (zK (zB rfl (zD rfl)) (zK (zp (u:=.int .i64 (x)) rfl ty22 rfl rfl (Int.natCast_nonneg _) (by simp[hx]) cl3 (zD rfl)) ?_))
    refine yN rfl (zU rfl rfl sh3 rfl (zD rfl)) ?_
    refine zK (zB rfl (zD rfl)) (zK (zB rfl (zD rfl)) (zK (zp (u:=.int .i64 (y)) rfl ty22 rfl rfl (Int.natCast_nonneg _) (by simp[hy]) cl3 (zD rfl)) ?_))
    refine yN rfl (zU rfl rfl sh3 rfl (zD rfl)) ?_
    refine zK (zX rfl rfl rfl (zD rfl)) ?_
    refine zK (zC rfl (zD rfl)) ?_
    refine zDT ?_
    refine zY ?_
    refine⟨.inr rfl,_,.cons _ _ _ _ (.tmp 4) .nil,?_⟩
    exact .refl _
  ·have hd:m.drop i=[]:=List.drop_eq_nil_of_le (by omega)
   rw[hd]at hw
   change z=false at hw
   subst hw
   have hk40:decide ((l.length:Int)<m.length)=false:=decide_eq_false (by omega)
   refine k_seq (kQ (zB rfl (zB rfl (zb rfl ty22 rfl (List.length_map _) ?_))))
   refine zX rfl rfl rfl (zB rfl (o_gD rfl rfl rfl rfl (decide_eq_true (by omega)) ?_))
   refine zB rfl (o_gD rfl rfl rfl rfl (decide_eq_true (by omega)) ?_)
   refine zB rfl (o_gD rfl rfl rfl rfl (decide_eq_true (by omega)) ?_)
   refine zb rfl ty22 rfl (List.length_map _) ?_
   refine o_gD rfl rfl rfl rfl (decide_eq_true (by omega)) ?_
   refine zX rfl rfl rfl (zQ rfl rfl (decide_eq_true (by omega)) ?_)
   refine zD (k_cF rfl (decide_eq_false (by omega)) (yV (kQ (zB rfl (zb rfl ty22 rfl (List.length_map _) ?_)))))
   refine zB rfl (zb rfl ty22 rfl (List.length_map _) ?_)
   refine zX rfl rfl rfl (zC rfl (zD (zY ?_)))
   refine⟨.inr rfl,_,.cons _ _ _ _ (.tmp 4) .nil,?_⟩
   rw[hk40];exact .refl _
 ·have hie:i=l.length:=by omega
  have hd:l.drop i=[]:=List.drop_eq_nil_of_le (by omega)
  rw[hd]at hw
  have es:zAp [] (m.drop i)=decide ((l.length:Int)<m.length):=by
   show decide (0<(m.drop i).length)=_
   rw[List.length_drop]
   exact decide_eq_decide.2 (by omega)
  rw[es]at hw
  subst hw
  refine k_seq (kQ (zB rfl (zB rfl (zb rfl ty22 rfl (List.length_map _) ?_))))
  refine zX rfl rfl rfl (zB rfl (o_gS rfl rfl rfl rfl (decide_eq_false (by omega)) ?_))
  refine o_gS rfl rfl rfl rfl (decide_eq_false (by omega)) ?_
  refine o_gS rfl rfl rfl rfl (decide_eq_false (by omega)) ?_
  refine o_gS rfl rfl rfl rfl (decide_eq_false (by omega)) ?_
  refine zJ rfl rfl (decide_eq_false (by omega)) ?_
  refine zD (k_cF rfl rfl ?_)
  refine yV (kQ (zB rfl (zb rfl ty22 rfl (List.length_map _) ?_)))
  refine zB rfl (zb rfl ty22 rfl (List.length_map _) ?_)
  refine zX rfl rfl rfl (zC rfl (zD (zY ?_)))
  refine⟨.inr rfl,_,.cons _ _ _ _ (.tmp 4) .nil,?_⟩
  exact .refl _
theorem chs_cho{b:Bk}{q:List Int}(h:q∈chs b []):Cho b q:=by
 obtain⟨P,h1,rfl⟩:=mem_chs.1 h
 refine cho_mem fun i hi hp=>?_
 have:=(zFU _).1 h1 i hi
 unfold canB at this
 rw[if_neg (by simp),hp]at this
 simpa using this
theorem cho_chs{b:Bk}{P:Nat→Bool}(h:∀i,i<b.scenes.length→P i=true→zBs b i=false):memP P b.scenes.length∈chs b []:=by
 refine mem_chs.2 ⟨P,(zFU _).2 fun i hi=>?_,rfl⟩
 unfold canB
 rw[if_neg (by simp)]
 cases hp:P i with
 |false=>rfl
 |true=>rw[h i hi hp];rfl
theorem choP_must{b:Bk}{bits:List Int}(i:Nat)(h:choP b bits i=true):zBs b i=false:=by
 unfold choP at h
 rw[Bool.and_eq_true]at h
 simpa using h.1
set_option maxHeartbeats 16000000 in
set_option maxRecDepth 20000 in
theorem ret7(hi:Off is)(b:Bk)(bits:List Int)(r24:RetP Tryd.prog is orc 24 [] (.bool true)):RetP Tryd.prog is orc 7 [b.u,.lst .ro 1 (zA bits)] (.bool true):=by
 have q29:=ret29 (orc:=orc) hi b
 refine yD body7 pure7 (hi 7 (by decide)) rfl rfl (yb (zAb b 4) (zd 6 .ro (fun h=>by cases h) 1 bits)) (.inl (.bool _ _)) ?_
 cases hv:zDX b with
 |false=>
  rw[hv]at q29
  refine kQ (yI rfl rfl (zC rfl (zD ?_)))
  refine zN [(1,.lst .ro 1 (zA bits)),(2,U.box 0 0)] ([SB.box [.int .i64 (Bk.bg b),.lst .ro 1 (zA (Bk.opens b)),.lst .ro 1 (zA (Bk.ends b)),.lst .ro 5 (scsU (Bk.scenes b)),.int .i64 (Bk.fee b),.lst .ro 1 (zA (Bk.loads b)),.int .i64 (Bk.cart b),.int .i64 (Bk.cost b),.int .i64 (Bk.feast b),.lst .ro 1 (zA (Bk.shares b))]]) (.cons rfl (.cons rfl (.nil rfl))) rfl fun fr=>?_
  refine k_seq (kQ (zR rfl rfl rfl sh25 rfl (zL rfl (q29) (.lrefl _) (zt rfl rfl (zD (k_cT rfl rfl ?_))))))
  refine kQ (zL rfl (r24) (.lrefl _) (zC rfl (zD (zY ?_))))
  refine⟨.inr rfl,_,.cons _ _ _ _ (.tmp 4) .nil,?_⟩
  exact .refl _
 |true=>
  rw[hv]at q29
  have h:=(zFF b).1 hv
  have hn:=h.sn
  have q35:=ret35 (orc:=orc) hi h bits
  have hmem:=cho_chs (b:=b) (P:=choP b bits) fun i _ hp=>choP_must i hp
  generalize memP (choP b bits) b.scenes.length=L at*
  have hL:=chs_cho hmem
  have hLl:=hL.len
  have q19:=ret19 (orc:=orc) hi h L
  rw[cho_iff.2 hL,if_pos rfl,Bool.true_and]at q19
  have q21:=ret21 (orc:=orc) hi h
  have q32:=ret32 (orc:=orc) hi h (L:=L) (by omega) hL.rg
  have hno:=lgt_none (b:=b) (d:=[])
  have hsp:=fun m=>lgt_spec (b:=b) (d:=[]) (m:=m)
  generalize lgt b []=o at*
  cases o with
  |none=>
   rw[hno rfl L hmem]at q19
   have q21:RetP Tryd.prog is orc 21 [b.u] (.tup [.lst .full 0 [],.int .i64 4]):=q21
   refine kQ (yI rfl rfl (zC rfl (zD ?_)))
   refine zN [(1,.lst .ro 1 (zA bits)),(2,U.box 0 0)] ([SB.box [.int .i64 (Bk.bg b),.lst .ro 1 (zA (Bk.opens b)),.lst .ro 1 (zA (Bk.ends b)),.lst .ro 5 (scsU (Bk.scenes b)),.int .i64 (Bk.fee b),.lst .ro 1 (zA (Bk.loads b)),.int .i64 (Bk.cart b),.int .i64 (Bk.cost b),.int .i64 (Bk.feast b),.lst .ro 1 (zA (Bk.shares b))]]) (.cons rfl (.cons rfl (.nil rfl))) rfl fun fr=>?_
   refine k_seq (kQ (zR rfl rfl rfl sh25 rfl (zL rfl (q29) (.lrefl _) (zt rfl rfl (zD (k_cF rfl rfl ?_))))))
   refine zO (kQ (zR rfl rfl rfl sh25 rfl (zB rfl (zL rfl (q35) (.lrefl _) (zC rfl (zD (kQ (zR rfl rfl rfl sh25 rfl ?_))))))))
   refine zB rfl (zL rfl (q19) (.lrefl _) (zB rfl (zV rfl rfl rfl (zV rfl rfl rfl (zC rfl (zC rfl (zD ?_)))))))
   refine zN [(2,U.box 0 0),(5,.lst .ro 1 (zA L)),(6,.bool false),(7,.int .i64 0)] ([SB.box [.int .i64 (Bk.bg b),.lst .ro 1 (zA (Bk.opens b)),.lst .ro 1 (zA (Bk.ends b)),.lst .ro 5 (scsU (Bk.scenes b)),.int .i64 (Bk.fee b),.lst .ro 1 (zA (Bk.loads b)),.int .i64 (Bk.cart b),.int .i64 (Bk.cost b),.int .i64 (Bk.feast b),.lst .ro 1 (zA (Bk.shares b))]]) (.c4 rfl rfl rfl rfl (.nil rfl)) rfl fun fr=>?_
   refine kQ (zR rfl rfl rfl sh25 rfl (zL rfl (q21) (.lrefl _) (zB rfl (zV rfl rfl rfl (zV rfl rfl rfl (zC rfl (zC rfl (zD ?_))))))))
   refine k_seq (kQ (zB rfl (yy rfl rfl rfl (zB rfl (o_gD rfl rfl rfl rfl rfl (zB rfl (o_gD rfl rfl rfl rfl rfl (yy rfl rfl rfl ?_))))))))
   refine o_gD rfl rfl rfl rfl rfl (zB rfl (o_gD rfl rfl rfl rfl rfl (zB rfl (o_gD rfl rfl rfl rfl rfl (yy rfl rfl rfl (o_gD rfl rfl rfl rfl rfl (zQ rfl rfl rfl ?_)))))))
   refine zI [(2,U.box 0 0),(5,.lst .ro 1 (zA L)),(6,.bool false),(8,.lst .full 0 []),(9,.int .i64 4),(32,U.bool (decide ((0:Int)≠(0:Int)))),(38,U.bool (decide ((4:Int)≠(4:Int))))] [] ([SB.box [.int .i64 (Bk.bg b),.lst .ro 1 (zA (Bk.opens b)),.lst .ro 1 (zA (Bk.ends b)),.lst .ro 5 (scsU (Bk.scenes b)),.int .i64 (Bk.fee b),.lst .ro 1 (zA (Bk.loads b)),.int .i64 (Bk.cart b),.int .i64 (Bk.cost b),.int .i64 (Bk.feast b),.lst .ro 1 (zA (Bk.shares b))]]) (.c4 rfl rfl rfl rfl (.cons rfl (.cons rfl (.cons rfl (.nil rfl))))) rfl rfl fun fr=>?_
   refine zJ rfl rfl rfl ?_
   refine zB rfl (o_gD rfl rfl rfl rfl rfl (zB rfl (o_gD rfl rfl rfl rfl rfl (wZ rfl rfl rfl (o_gD rfl rfl rfl rfl rfl (zB rfl (o_gS rfl rfl rfl rfl rfl (o_gS rfl rfl rfl rfl rfl ?_))))))))
   refine o_gS rfl rfl rfl rfl rfl (o_gS rfl rfl rfl rfl rfl ?_)
   refine zI [(2,U.box 0 0),(5,.lst .ro 1 (zA L)),(6,.bool false),(8,.lst .full 0 []),(9,.int .i64 4),(40,U.bool (decide ((4:Int)≠(4:Int)))),(43,U.bool (decide ((4:Int)=(0:Int)))),(47,U.tup [])] [] ([SB.box [.int .i64 (Bk.bg b),.lst .ro 1 (zA (Bk.opens b)),.lst .ro 1 (zA (Bk.ends b)),.lst .ro 5 (scsU (Bk.scenes b)),.int .i64 (Bk.fee b),.lst .ro 1 (zA (Bk.loads b)),.int .i64 (Bk.cart b),.int .i64 (Bk.cost b),.int .i64 (Bk.feast b),.lst .ro 1 (zA (Bk.shares b))]]) (.c4 rfl rfl rfl rfl (.c4 rfl rfl rfl rfl (.nil rfl))) rfl rfl fun fr=>?_
   refine o_gD rfl rfl rfl rfl rfl ?_
   refine zI [(2,U.box 0 0),(5,.lst .ro 1 (zA L)),(6,.bool false),(8,.lst .full 0 []),(9,.int .i64 4),(40,U.bool (decide ((4:Int)≠(4:Int)))),(43,U.bool (decide ((4:Int)=(0:Int)))),(47,U.tup [])] [] ([SB.box [.int .i64 (Bk.bg b),.lst .ro 1 (zA (Bk.opens b)),.lst .ro 1 (zA (Bk.ends b)),.lst .ro 5 (scsU (Bk.scenes b)),.int .i64 (Bk.fee b),.lst .ro 1 (zA (Bk.loads b)),.int .i64 (Bk.cart b),.int .i64 (Bk.cost b),.int .i64 (Bk.feast b),.lst .ro 1 (zA (Bk.shares b))]]) (.c4 rfl rfl rfl rfl (.c4 rfl rfl rfl rfl (.nil rfl))) rfl rfl fun fr=>?_
   refine zJ rfl rfl rfl ?_
   refine zJ rfl rfl rfl ?_
   refine zD ?_
   refine zN [(2,U.box 0 0),(5,.lst .ro 1 (zA L)),(6,.bool false),(8,.lst .full 0 []),(9,.int .i64 4),(49,.bool false)] ([SB.box [.int .i64 (Bk.bg b),.lst .ro 1 (zA (Bk.opens b)),.lst .ro 1 (zA (Bk.ends b)),.lst .ro 5 (scsU (Bk.scenes b)),.int .i64 (Bk.fee b),.lst .ro 1 (zA (Bk.loads b)),.int .i64 (Bk.cart b),.int .i64 (Bk.cost b),.int .i64 (Bk.feast b),.lst .ro 1 (zA (Bk.shares b))]]) (.c4 rfl rfl rfl rfl (.cons rfl (.cons rfl (.nil rfl)))) rfl fun fr=>?_
   refine k_cF rfl rfl ?_
   refine zO (k_seq (kQ (zB rfl (zt rfl rfl (zD (k_cT rfl rfl ?_))))))
   refine kQ (zL rfl (r24) (.lrefl _) (zC rfl (zD (zY ?_))))
   refine⟨.inr rfl,_,.cons _ _ _ _ (.tmp 4) .nil,?_⟩
   exact .refl _
  |some m=>
   have q21:RetP Tryd.prog is orc 21 [b.u] (.tup [.lst .ro 1 (zA m),.int .i64 0]):=q21
   obtain⟨⟨h1,_⟩,h2⟩:=hsp m rfl
   have hm:=chs_cho h1
   have hml:=hm.len
   have q31:=ret31 (orc:=orc) hi h hm
   cases hf:fitB b [] L with
   |false=>
    rw[hf]at q19
    refine kQ (yI rfl rfl (zC rfl (zD ?_)))
    refine zN [(1,.lst .ro 1 (zA bits)),(2,U.box 0 0)] ([SB.box [.int .i64 (Bk.bg b),.lst .ro 1 (zA (Bk.opens b)),.lst .ro 1 (zA (Bk.ends b)),.lst .ro 5 (scsU (Bk.scenes b)),.int .i64 (Bk.fee b),.lst .ro 1 (zA (Bk.loads b)),.int .i64 (Bk.cart b),.int .i64 (Bk.cost b),.int .i64 (Bk.feast b),.lst .ro 1 (zA (Bk.shares b))]]) (.cons rfl (.cons rfl (.nil rfl))) rfl fun fr=>?_
    refine k_seq (kQ (zR rfl rfl rfl sh25 rfl (zL rfl (q29) (.lrefl _) (zt rfl rfl (zD (k_cF rfl rfl ?_))))))
    refine zO (kQ (zR rfl rfl rfl sh25 rfl (zB rfl (zL rfl (q35) (.lrefl _) (zC rfl (zD (kQ (zR rfl rfl rfl sh25 rfl ?_))))))))
    refine zB rfl (zL rfl (q19) (.lrefl _) (zB rfl (zV rfl rfl rfl (zV rfl rfl rfl (zC rfl (zC rfl (zD ?_)))))))
    refine zN [(2,U.box 0 0),(5,.lst .ro 1 (zA L)),(6,.bool false),(7,.int .i64 0)] ([SB.box [.int .i64 (Bk.bg b),.lst .ro 1 (zA (Bk.opens b)),.lst .ro 1 (zA (Bk.ends b)),.lst .ro 5 (scsU (Bk.scenes b)),.int .i64 (Bk.fee b),.lst .ro 1 (zA (Bk.loads b)),.int .i64 (Bk.cart b),.int .i64 (Bk.cost b),.int .i64 (Bk.feast b),.lst .ro 1 (zA (Bk.shares b))]]) (.c4 rfl rfl rfl rfl (.nil rfl)) rfl fun fr=>?_
    refine kQ (zR rfl rfl rfl sh25 rfl (zL rfl (q21) (.lrefl _) (zB rfl (zV rfl rfl rfl (zV rfl rfl rfl (zC rfl (zC rfl (zD ?_))))))))
    refine k_seq (kQ (zB rfl (yy rfl rfl rfl (zB rfl (o_gD rfl rfl rfl rfl rfl (zB rfl (o_gD rfl rfl rfl rfl rfl (yy rfl rfl rfl ?_))))))))
    refine o_gD rfl rfl rfl rfl rfl (zB rfl (o_gS rfl rfl rfl rfl rfl (o_gS rfl rfl rfl rfl rfl (o_gD rfl rfl rfl rfl rfl (zJ rfl rfl rfl ?_)))))
    refine zI [(2,U.box 0 0),(5,.lst .ro 1 (zA L)),(6,.bool false),(8,.lst .ro 1 (zA m)),(9,.int .i64 0),(32,U.bool (decide ((0:Int)≠(0:Int)))),(38,.bool false)] [] ([SB.box [.int .i64 (Bk.bg b),.lst .ro 1 (zA (Bk.opens b)),.lst .ro 1 (zA (Bk.ends b)),.lst .ro 5 (scsU (Bk.scenes b)),.int .i64 (Bk.fee b),.lst .ro 1 (zA (Bk.loads b)),.int .i64 (Bk.cart b),.int .i64 (Bk.cost b),.int .i64 (Bk.feast b),.lst .ro 1 (zA (Bk.shares b))]]) (.c4 rfl rfl rfl rfl (.cons rfl (.cons rfl (.cons rfl (.nil rfl))))) rfl rfl fun fr=>?_
    refine zJ rfl rfl rfl ?_
    refine zB rfl (o_gD rfl rfl rfl rfl rfl (zB rfl (o_gD rfl rfl rfl rfl rfl (wZ rfl rfl rfl (o_gD rfl rfl rfl rfl rfl (zB rfl (o_gD rfl rfl rfl rfl rfl (zR rfl rfl rfl sh25 rfl ?_))))))))
    refine o_gD rfl rfl rfl rfl rfl (zB rfl (o_gD rfl rfl rfl rfl rfl (zL rfl (q31) (.lrefl _) (o_gD rfl rfl rfl rfl rfl (zt rfl rfl ?_)))))
    refine zI [(2,U.box 0 0),(5,.lst .ro 1 (zA L)),(6,.bool false),(8,.lst .ro 1 (zA m)),(9,.int .i64 0),(40,.bool false),(43,U.bool (decide ((0:Int)=(0:Int)))),(47,U.bool !Bool.true)] [] ([SB.box [.int .i64 (Bk.bg b),.lst .ro 1 (zA (Bk.opens b)),.lst .ro 1 (zA (Bk.ends b)),.lst .ro 5 (scsU (Bk.scenes b)),.int .i64 (Bk.fee b),.lst .ro 1 (zA (Bk.loads b)),.int .i64 (Bk.cart b),.int .i64 (Bk.cost b),.int .i64 (Bk.feast b),.lst .ro 1 (zA (Bk.shares b))]]) (.c4 rfl rfl rfl rfl (.c4 rfl rfl rfl rfl (.nil rfl))) rfl rfl fun fr=>?_
    refine o_gD rfl rfl rfl rfl rfl ?_
    refine zI [(2,U.box 0 0),(5,.lst .ro 1 (zA L)),(6,.bool false),(8,.lst .ro 1 (zA m)),(9,.int .i64 0),(40,.bool false),(43,U.bool (decide ((0:Int)=(0:Int)))),(47,U.bool !Bool.true)] [] ([SB.box [.int .i64 (Bk.bg b),.lst .ro 1 (zA (Bk.opens b)),.lst .ro 1 (zA (Bk.ends b)),.lst .ro 5 (scsU (Bk.scenes b)),.int .i64 (Bk.fee b),.lst .ro 1 (zA (Bk.loads b)),.int .i64 (Bk.cart b),.int .i64 (Bk.cost b),.int .i64 (Bk.feast b),.lst .ro 1 (zA (Bk.shares b))]]) (.c4 rfl rfl rfl rfl (.c4 rfl rfl rfl rfl (.nil rfl))) rfl rfl fun fr=>?_
    refine zQ rfl rfl rfl ?_
    refine zJ rfl rfl rfl ?_
    refine zD ?_
    refine zN [(2,U.box 0 0),(5,.lst .ro 1 (zA L)),(6,.bool false),(8,.lst .ro 1 (zA m)),(9,.int .i64 0),(49,U.bool !Bool.true)] ([SB.box [.int .i64 (Bk.bg b),.lst .ro 1 (zA (Bk.opens b)),.lst .ro 1 (zA (Bk.ends b)),.lst .ro 5 (scsU (Bk.scenes b)),.int .i64 (Bk.fee b),.lst .ro 1 (zA (Bk.loads b)),.int .i64 (Bk.cart b),.int .i64 (Bk.cost b),.int .i64 (Bk.feast b),.lst .ro 1 (zA (Bk.shares b))]]) (.c4 rfl rfl rfl rfl (.cons rfl (.cons rfl (.nil rfl)))) rfl fun fr=>?_
    refine k_cF rfl rfl ?_
    refine zO (k_seq (kQ (zB rfl (zt rfl rfl (zD (k_cT rfl rfl ?_))))))
    refine kQ (zL rfl (r24) (.lrefl _) (zC rfl (zD (zY ?_))))
    refine⟨.inr rfl,_,.cons _ _ _ _ (.tmp 4) .nil,?_⟩
    exact .refl _
   |true=>
    rw[hf]at q19
    have q32m:=ret32 (orc:=orc) hi h (L:=m) (by omega) hm.rg
    have q37:=ret37 (orc:=orc) hi L m (by omega) (by omega)
    have hlt:=h2 L hmem hf
    have hlt: ¬ (ltB (wt b) L m=true):=by rw[hlt];decide
    rw[zGR]at hlt
    generalize wt b L=wL at*
    generalize wt b m=wm at*
    by_cases c1:wm<wL
    ·refine kQ ?_
     refine yI rfl rfl (zC rfl (zD ?_))
     refine zN [(1,.lst .ro 1 (zA bits)),(2,U.box 0 0)] ([SB.box [.int .i64 (Bk.bg b),.lst .ro 1 (zA (Bk.opens b)),.lst .ro 1 (zA (Bk.ends b)),.lst .ro 5 (scsU (Bk.scenes b)),.int .i64 (Bk.fee b),.lst .ro 1 (zA (Bk.loads b)),.int .i64 (Bk.cart b),.int .i64 (Bk.cost b),.int .i64 (Bk.feast b),.lst .ro 1 (zA (Bk.shares b))]]) (.cons rfl (.cons rfl (.nil rfl))) rfl fun fr=>?_
     refine k_seq (kQ (zR rfl rfl rfl sh25 rfl (zL rfl (q29) (.lrefl _) (zt rfl rfl (zD (k_cF rfl rfl ?_))))))
     refine zO (kQ (zR rfl rfl rfl sh25 rfl (zB rfl (zL rfl (q35) (.lrefl _) (zC rfl (zD (kQ (zR rfl rfl rfl sh25 rfl ?_))))))))
     refine zB rfl (zL rfl (q19) (.lrefl _) (zB rfl (zV rfl rfl rfl (zV rfl rfl rfl (zC rfl (zC rfl (zD ?_)))))))
     refine zN [(2,U.box 0 0),(5,.lst .ro 1 (zA L)),(6,.bool true),(7,.int .i64 0)] ([SB.box [.int .i64 (Bk.bg b),.lst .ro 1 (zA (Bk.opens b)),.lst .ro 1 (zA (Bk.ends b)),.lst .ro 5 (scsU (Bk.scenes b)),.int .i64 (Bk.fee b),.lst .ro 1 (zA (Bk.loads b)),.int .i64 (Bk.cart b),.int .i64 (Bk.cost b),.int .i64 (Bk.feast b),.lst .ro 1 (zA (Bk.shares b))]]) (.c4 rfl rfl rfl rfl (.nil rfl)) rfl fun fr=>?_
     refine kQ (zR rfl rfl rfl sh25 rfl (zL rfl (q21) (.lrefl _) (zB rfl (zV rfl rfl rfl (zV rfl rfl rfl (zC rfl (zC rfl (zD ?_))))))))
     refine k_seq (kQ (zB rfl (yy rfl rfl rfl (zB rfl (o_gD rfl rfl rfl rfl rfl (zB rfl (o_gD rfl rfl rfl rfl rfl (yy rfl rfl rfl ?_))))))))
     refine o_gD rfl rfl rfl rfl rfl (zB rfl (o_gS rfl rfl rfl rfl rfl (o_gS rfl rfl rfl rfl rfl (o_gD rfl rfl rfl rfl rfl (zJ rfl rfl rfl ?_)))))
     refine zI [(2,U.box 0 0),(5,.lst .ro 1 (zA L)),(6,.bool true),(8,.lst .ro 1 (zA m)),(9,.int .i64 0),(32,U.bool (decide ((0:Int)≠(0:Int)))),(38,.bool false)] [] ([SB.box [.int .i64 (Bk.bg b),.lst .ro 1 (zA (Bk.opens b)),.lst .ro 1 (zA (Bk.ends b)),.lst .ro 5 (scsU (Bk.scenes b)),.int .i64 (Bk.fee b),.lst .ro 1 (zA (Bk.loads b)),.int .i64 (Bk.cart b),.int .i64 (Bk.cost b),.int .i64 (Bk.feast b),.lst .ro 1 (zA (Bk.shares b))]]) (.c4 rfl rfl rfl rfl (.cons rfl (.cons rfl (.cons rfl (.nil rfl))))) rfl rfl fun fr=>?_
     refine zJ rfl rfl rfl ?_
     refine zB rfl (o_gD rfl rfl rfl rfl rfl (zB rfl (o_gD rfl rfl rfl rfl rfl (wZ rfl rfl rfl (o_gD rfl rfl rfl rfl rfl (zB rfl (o_gD rfl rfl rfl rfl rfl (zR rfl rfl rfl sh25 rfl ?_))))))))
     refine o_gD rfl rfl rfl rfl rfl (zB rfl (o_gD rfl rfl rfl rfl rfl (zL rfl (q31) (.lrefl _) (o_gD rfl rfl rfl rfl rfl (zt rfl rfl ?_)))))
     refine zI [(2,U.box 0 0),(5,.lst .ro 1 (zA L)),(6,.bool true),(8,.lst .ro 1 (zA m)),(9,.int .i64 0),(40,.bool false),(43,U.bool (decide ((0:Int)=(0:Int)))),(47,U.bool !Bool.true)] [] ([SB.box [.int .i64 (Bk.bg b),.lst .ro 1 (zA (Bk.opens b)),.lst .ro 1 (zA (Bk.ends b)),.lst .ro 5 (scsU (Bk.scenes b)),.int .i64 (Bk.fee b),.lst .ro 1 (zA (Bk.loads b)),.int .i64 (Bk.cart b),.int .i64 (Bk.cost b),.int .i64 (Bk.feast b),.lst .ro 1 (zA (Bk.shares b))]]) (.c4 rfl rfl rfl rfl (.c4 rfl rfl rfl rfl (.nil rfl))) rfl rfl fun fr=>?_
     refine o_gD rfl rfl rfl rfl rfl ?_
     refine zI [(2,U.box 0 0),(5,.lst .ro 1 (zA L)),(6,.bool true),(8,.lst .ro 1 (zA m)),(9,.int .i64 0),(40,.bool false),(43,U.bool (decide ((0:Int)=(0:Int)))),(47,U.bool !Bool.true)] [] ([SB.box [.int .i64 (Bk.bg b),.lst .ro 1 (zA (Bk.opens b)),.lst .ro 1 (zA (Bk.ends b)),.lst .ro 5 (scsU (Bk.scenes b)),.int .i64 (Bk.fee b),.lst .ro 1 (zA (Bk.loads b)),.int .i64 (Bk.cart b),.int .i64 (Bk.cost b),.int .i64 (Bk.feast b),.lst .ro 1 (zA (Bk.shares b))]]) (.c4 rfl rfl rfl rfl (.c4 rfl rfl rfl rfl (.nil rfl))) rfl rfl fun fr=>?_
     refine zQ rfl rfl rfl ?_
     refine zJ rfl rfl rfl ?_
     refine zD ?_
     refine zN [(2,U.box 0 0),(5,.lst .ro 1 (zA L)),(6,.bool true),(8,.lst .ro 1 (zA m)),(9,.int .i64 0),(49,U.bool !Bool.true)] ([SB.box [.int .i64 (Bk.bg b),.lst .ro 1 (zA (Bk.opens b)),.lst .ro 1 (zA (Bk.ends b)),.lst .ro 5 (scsU (Bk.scenes b)),.int .i64 (Bk.fee b),.lst .ro 1 (zA (Bk.loads b)),.int .i64 (Bk.cart b),.int .i64 (Bk.cost b),.int .i64 (Bk.feast b),.lst .ro 1 (zA (Bk.shares b))]]) (.c4 rfl rfl rfl rfl (.cons rfl (.cons rfl (.nil rfl)))) rfl fun fr=>?_
     refine k_cF rfl rfl ?_
     refine zO (k_seq (kQ (zB rfl (zt rfl rfl (zD (k_cF rfl rfl ?_))))))
     refine zO (k_seq (zAu [.read true,.plain,.read false,.read true,.plain,.plain,.plain,.plain] (by kernel_rfl) (by kernel_rfl) (by kernel_rfl) ?_))
     refine yN rfl (zR rfl rfl rfl sh25 rfl (zD rfl)) ?_
     refine zK (zB rfl (zD rfl)) (zCA rfl (q32) (.int _ _) (.lrefl _) ?_)
     refine yN rfl (zR rfl rfl rfl sh25 rfl (zD rfl)) ?_
     refine zK (zB rfl (zD rfl)) (zK (zL rfl (q32m) (.lrefl _) (zD rfl)) ?_)
     refine zK (zC rfl (zD rfl)) ?_
     refine zK (zC rfl (zD rfl)) ?_
     refine zDT ?_
     refine kQ (zB rfl (wZ rfl rfl rfl (zB rfl (o_gD rfl rfl rfl rfl rfl (zB rfl (o_gD rfl rfl rfl rfl rfl (zB rfl (o_gD rfl rfl rfl rfl rfl ?_))))))))
     refine zX rfl rfl rfl (o_gD rfl rfl rfl rfl rfl (zB rfl (o_gS rfl rfl rfl rfl (decide_eq_true (by omega)) (o_gS rfl rfl rfl rfl (decide_eq_true (by omega)) ?_))))
     refine zI [(5,.lst .ro 1 (zA L)),(8,.lst .ro 1 (zA m)),(61,U.bool (decide ((0:Int)=(0:Int)))),(65,U.bool (decide (wm<wL))),(66,U.tup []),(67,U.tup [])] [] ([SB.box [.int .i64 (Bk.bg b),.lst .ro 1 (zA (Bk.opens b)),.lst .ro 1 (zA (Bk.ends b)),.lst .ro 5 (scsU (Bk.scenes b)),.int .i64 (Bk.fee b),.lst .ro 1 (zA (Bk.loads b)),.int .i64 (Bk.cart b),.int .i64 (Bk.cost b),.int .i64 (Bk.feast b),.lst .ro 1 (zA (Bk.shares b))]]) (.c4 rfl rfl rfl rfl (.cons rfl (.cons rfl (.nil rfl)))) rfl rfl fun fr=>?_
     refine o_gS rfl rfl rfl rfl (decide_eq_true (by omega)) (o_gS rfl rfl rfl rfl (decide_eq_true (by omega)) (wU rfl rfl rfl rfl ?_))
     refine wU rfl rfl rfl rfl ?_
     refine wU rfl rfl rfl rfl ?_
     refine wU rfl rfl rfl rfl ?_
     refine wU rfl rfl rfl rfl ?_
     refine wU rfl rfl rfl rfl ?_
     refine wU rfl rfl rfl rfl ?_
     refine zI [(5,.lst .ro 1 (zA L)),(8,.lst .ro 1 (zA m)),(61,U.bool (decide ((0:Int)=(0:Int)))),(65,U.bool (decide (wm<wL))),(69,U.tup []),(75,U.tup []),(76,U.tup [])] [] ([SB.box [.int .i64 (Bk.bg b),.lst .ro 1 (zA (Bk.opens b)),.lst .ro 1 (zA (Bk.ends b)),.lst .ro 5 (scsU (Bk.scenes b)),.int .i64 (Bk.fee b),.lst .ro 1 (zA (Bk.loads b)),.int .i64 (Bk.cart b),.int .i64 (Bk.cost b),.int .i64 (Bk.feast b),.lst .ro 1 (zA (Bk.shares b))]]) (.c4 rfl rfl rfl rfl (.cons rfl (.cons rfl (.cons rfl (.nil rfl))))) rfl rfl fun fr=>?_
     refine wU rfl rfl rfl rfl ?_
     refine wU rfl rfl rfl rfl ?_
     refine wU rfl rfl rfl rfl ?_
     refine wU rfl rfl rfl rfl ?_
     refine wU rfl rfl rfl rfl ?_
     refine wU rfl rfl rfl rfl ?_
     refine wU rfl rfl rfl rfl ?_
     refine wU rfl rfl rfl rfl ?_
     refine wU rfl rfl rfl rfl ?_
     refine zI [(61,U.bool (decide ((0:Int)=(0:Int)))),(65,U.bool (decide (wm<wL))),(69,U.tup []),(75,U.tup []),(81,U.tup []),(85,U.tup [])] [] ([SB.box [.int .i64 (Bk.bg b),.lst .ro 1 (zA (Bk.opens b)),.lst .ro 1 (zA (Bk.ends b)),.lst .ro 5 (scsU (Bk.scenes b)),.int .i64 (Bk.fee b),.lst .ro 1 (zA (Bk.loads b)),.int .i64 (Bk.cart b),.int .i64 (Bk.cost b),.int .i64 (Bk.feast b),.lst .ro 1 (zA (Bk.shares b))]]) (.c4 rfl rfl rfl rfl (.cons rfl (.cons rfl (.nil rfl)))) rfl rfl fun fr=>?_
     refine wU rfl rfl rfl rfl ?_
     refine wU rfl rfl rfl rfl ?_
     refine o_gS rfl rfl rfl rfl (decide_eq_true (by omega)) (o_gD rfl rfl rfl rfl rfl (zQ rfl rfl (decide_eq_true (by omega)) ?_))
     refine zQ rfl rfl rfl ?_
     refine zB rfl (o_gD rfl rfl rfl rfl rfl (zL rfl (r24) (.lrefl _) (zQ rfl rfl rfl ?_)))
     refine zC rfl (zD (zY ?_))
     refine⟨.inr rfl,_,.cons _ _ _ _ (.tmp 4) .nil,?_⟩
     exact .refl _
    ·have c2:wm=wL:=by
      by_cases c2:wL<wm
      ·exact absurd (.inl c2) hlt
      ·omega
     by_cases c3:m.length<L.length
     ·refine kQ ?_
      refine yI rfl rfl (zC rfl (zD ?_))
      refine zN [(1,.lst .ro 1 (zA bits)),(2,U.box 0 0)] ([SB.box [.int .i64 (Bk.bg b),.lst .ro 1 (zA (Bk.opens b)),.lst .ro 1 (zA (Bk.ends b)),.lst .ro 5 (scsU (Bk.scenes b)),.int .i64 (Bk.fee b),.lst .ro 1 (zA (Bk.loads b)),.int .i64 (Bk.cart b),.int .i64 (Bk.cost b),.int .i64 (Bk.feast b),.lst .ro 1 (zA (Bk.shares b))]]) (.cons rfl (.cons rfl (.nil rfl))) rfl fun fr=>?_
      refine k_seq (kQ (zR rfl rfl rfl sh25 rfl (zL rfl (q29) (.lrefl _) (zt rfl rfl (zD (k_cF rfl rfl ?_))))))
      refine zO (kQ (zR rfl rfl rfl sh25 rfl (zB rfl (zL rfl (q35) (.lrefl _) (zC rfl (zD (kQ (zR rfl rfl rfl sh25 rfl ?_))))))))
      refine zB rfl (zL rfl (q19) (.lrefl _) (zB rfl (zV rfl rfl rfl (zV rfl rfl rfl (zC rfl (zC rfl (zD ?_)))))))
      refine zN [(2,U.box 0 0),(5,.lst .ro 1 (zA L)),(6,.bool true),(7,.int .i64 0)] ([SB.box [.int .i64 (Bk.bg b),.lst .ro 1 (zA (Bk.opens b)),.lst .ro 1 (zA (Bk.ends b)),.lst .ro 5 (scsU (Bk.scenes b)),.int .i64 (Bk.fee b),.lst .ro 1 (zA (Bk.loads b)),.int .i64 (Bk.cart b),.int .i64 (Bk.cost b),.int .i64 (Bk.feast b),.lst .ro 1 (zA (Bk.shares b))]]) (.c4 rfl rfl rfl rfl (.nil rfl)) rfl fun fr=>?_
      refine kQ (zR rfl rfl rfl sh25 rfl (zL rfl (q21) (.lrefl _) (zB rfl (zV rfl rfl rfl (zV rfl rfl rfl (zC rfl (zC rfl (zD ?_))))))))
      refine k_seq (kQ (zB rfl (yy rfl rfl rfl (zB rfl (o_gD rfl rfl rfl rfl rfl (zB rfl (o_gD rfl rfl rfl rfl rfl (yy rfl rfl rfl ?_))))))))
      refine o_gD rfl rfl rfl rfl rfl (zB rfl (o_gS rfl rfl rfl rfl rfl (o_gS rfl rfl rfl rfl rfl (o_gD rfl rfl rfl rfl rfl (zJ rfl rfl rfl ?_)))))
      refine zI [(2,U.box 0 0),(5,.lst .ro 1 (zA L)),(6,.bool true),(8,.lst .ro 1 (zA m)),(9,.int .i64 0),(32,U.bool (decide ((0:Int)≠(0:Int)))),(38,.bool false)] [] ([SB.box [.int .i64 (Bk.bg b),.lst .ro 1 (zA (Bk.opens b)),.lst .ro 1 (zA (Bk.ends b)),.lst .ro 5 (scsU (Bk.scenes b)),.int .i64 (Bk.fee b),.lst .ro 1 (zA (Bk.loads b)),.int .i64 (Bk.cart b),.int .i64 (Bk.cost b),.int .i64 (Bk.feast b),.lst .ro 1 (zA (Bk.shares b))]]) (.c4 rfl rfl rfl rfl (.cons rfl (.cons rfl (.cons rfl (.nil rfl))))) rfl rfl fun fr=>?_
      refine zJ rfl rfl rfl ?_
      refine zB rfl (o_gD rfl rfl rfl rfl rfl (zB rfl (o_gD rfl rfl rfl rfl rfl (wZ rfl rfl rfl (o_gD rfl rfl rfl rfl rfl (zB rfl (o_gD rfl rfl rfl rfl rfl (zR rfl rfl rfl sh25 rfl ?_))))))))
      refine o_gD rfl rfl rfl rfl rfl (zB rfl (o_gD rfl rfl rfl rfl rfl (zL rfl (q31) (.lrefl _) (o_gD rfl rfl rfl rfl rfl (zt rfl rfl ?_)))))
      refine zI [(2,U.box 0 0),(5,.lst .ro 1 (zA L)),(6,.bool true),(8,.lst .ro 1 (zA m)),(9,.int .i64 0),(40,.bool false),(43,U.bool (decide ((0:Int)=(0:Int)))),(47,U.bool !Bool.true)] [] ([SB.box [.int .i64 (Bk.bg b),.lst .ro 1 (zA (Bk.opens b)),.lst .ro 1 (zA (Bk.ends b)),.lst .ro 5 (scsU (Bk.scenes b)),.int .i64 (Bk.fee b),.lst .ro 1 (zA (Bk.loads b)),.int .i64 (Bk.cart b),.int .i64 (Bk.cost b),.int .i64 (Bk.feast b),.lst .ro 1 (zA (Bk.shares b))]]) (.c4 rfl rfl rfl rfl (.c4 rfl rfl rfl rfl (.nil rfl))) rfl rfl fun fr=>?_
      refine o_gD rfl rfl rfl rfl rfl ?_
      refine zI [(2,U.box 0 0),(5,.lst .ro 1 (zA L)),(6,.bool true),(8,.lst .ro 1 (zA m)),(9,.int .i64 0),(40,.bool false),(43,U.bool (decide ((0:Int)=(0:Int)))),(47,U.bool !Bool.true)] [] ([SB.box [.int .i64 (Bk.bg b),.lst .ro 1 (zA (Bk.opens b)),.lst .ro 1 (zA (Bk.ends b)),.lst .ro 5 (scsU (Bk.scenes b)),.int .i64 (Bk.fee b),.lst .ro 1 (zA (Bk.loads b)),.int .i64 (Bk.cart b),.int .i64 (Bk.cost b),.int .i64 (Bk.feast b),.lst .ro 1 (zA (Bk.shares b))]]) (.c4 rfl rfl rfl rfl (.c4 rfl rfl rfl rfl (.nil rfl))) rfl rfl fun fr=>?_
      refine zQ rfl rfl rfl ?_
      refine zJ rfl rfl rfl ?_
      refine zD ?_
      refine zN [(2,U.box 0 0),(5,.lst .ro 1 (zA L)),(6,.bool true),(8,.lst .ro 1 (zA m)),(9,.int .i64 0),(49,U.bool !Bool.true)] ([SB.box [.int .i64 (Bk.bg b),.lst .ro 1 (zA (Bk.opens b)),.lst .ro 1 (zA (Bk.ends b)),.lst .ro 5 (scsU (Bk.scenes b)),.int .i64 (Bk.fee b),.lst .ro 1 (zA (Bk.loads b)),.int .i64 (Bk.cart b),.int .i64 (Bk.cost b),.int .i64 (Bk.feast b),.lst .ro 1 (zA (Bk.shares b))]]) (.c4 rfl rfl rfl rfl (.cons rfl (.cons rfl (.nil rfl)))) rfl fun fr=>?_
      refine k_cF rfl rfl ?_
      refine zO (k_seq (kQ (zB rfl (zt rfl rfl (zD (k_cF rfl rfl ?_))))))
      refine zO (k_seq (zAu [.read true,.plain,.read false,.read true,.plain,.plain,.plain,.plain] (by kernel_rfl) (by kernel_rfl) (by kernel_rfl) ?_))
      refine yN rfl (zR rfl rfl rfl sh25 rfl (zD rfl)) ?_
      refine zK (zB rfl (zD rfl)) (zCA rfl (q32) (.int _ _) (.lrefl _) ?_)
      refine yN rfl (zR rfl rfl rfl sh25 rfl (zD rfl)) ?_
      refine zK (zB rfl (zD rfl)) (zK (zL rfl (q32m) (.lrefl _) (zD rfl)) ?_)
      refine zK (zC rfl (zD rfl)) ?_
      refine zK (zC rfl (zD rfl)) ?_
      refine zDT ?_
      refine kQ (zB rfl (wZ rfl rfl rfl (zB rfl (o_gD rfl rfl rfl rfl rfl (zB rfl (o_gD rfl rfl rfl rfl rfl (zB rfl (o_gD rfl rfl rfl rfl rfl ?_))))))))
      refine zX rfl rfl rfl (o_gD rfl rfl rfl rfl rfl (zB rfl (o_gD rfl rfl rfl rfl (decide_eq_false (by omega)) (zB rfl (o_gD rfl rfl rfl rfl (decide_eq_false (by omega)) (zB rfl ?_))))))
      refine zI [(5,.lst .ro 1 (zA L)),(8,.lst .ro 1 (zA m)),(61,U.bool (decide ((0:Int)=(0:Int)))),(65,U.bool (decide (wm<wL))),(66,.int .i64 wm),(67,.int .i64 wL)] [] ([SB.box [.int .i64 (Bk.bg b),.lst .ro 1 (zA (Bk.opens b)),.lst .ro 1 (zA (Bk.ends b)),.lst .ro 5 (scsU (Bk.scenes b)),.int .i64 (Bk.fee b),.lst .ro 1 (zA (Bk.loads b)),.int .i64 (Bk.cart b),.int .i64 (Bk.cost b),.int .i64 (Bk.feast b),.lst .ro 1 (zA (Bk.shares b))]]) (.c4 rfl rfl rfl rfl (.cons rfl (.cons rfl (.nil rfl)))) rfl rfl fun fr=>?_
      refine o_gD rfl rfl rfl rfl (decide_eq_false (by omega)) ?_
      refine zI [(5,.lst .ro 1 (zA L)),(8,.lst .ro 1 (zA m)),(61,U.bool (decide ((0:Int)=(0:Int)))),(65,U.bool (decide (wm<wL))),(66,.int .i64 wm),(67,.int .i64 wL)] [] ([SB.box [.int .i64 (Bk.bg b),.lst .ro 1 (zA (Bk.opens b)),.lst .ro 1 (zA (Bk.ends b)),.lst .ro 5 (scsU (Bk.scenes b)),.int .i64 (Bk.fee b),.lst .ro 1 (zA (Bk.loads b)),.int .i64 (Bk.cart b),.int .i64 (Bk.cost b),.int .i64 (Bk.feast b),.lst .ro 1 (zA (Bk.shares b))]]) (.c4 rfl rfl rfl rfl (.cons rfl (.cons rfl (.nil rfl)))) rfl rfl fun fr=>?_
      refine wZ rfl rfl rfl (o_gD rfl rfl rfl rfl (decide_eq_false (by omega)) (zB rfl (o_gD rfl rfl rfl rfl (decide_eq_true (by omega)) ?_)))
      refine zB rfl (o_gD rfl rfl rfl rfl (decide_eq_true (by omega)) ?_)
      refine zb rfl ty22 rfl (List.length_map _) ?_
      refine o_gD rfl rfl rfl rfl (decide_eq_true (by omega)) ?_
      refine zB rfl (o_gD rfl rfl rfl rfl (decide_eq_true (by omega)) ?_)
      refine zb rfl ty22 rfl (List.length_map _) ?_
      refine o_gD rfl rfl rfl rfl (decide_eq_true (by omega)) ?_
      refine zX rfl rfl rfl (o_gD rfl rfl rfl rfl (decide_eq_true (by omega)) ?_)
      refine zB rfl (o_gS rfl rfl rfl rfl (decide_eq_true (by omega)) (o_gS rfl rfl rfl rfl (decide_eq_true (by omega)) (o_gS rfl rfl rfl rfl (decide_eq_true (by omega)) (o_gS rfl rfl rfl rfl (decide_eq_true (by omega)) (o_gS rfl rfl rfl rfl (decide_eq_true (by omega)) (o_gS rfl rfl rfl rfl (decide_eq_true (by omega)) (wU rfl rfl rfl rfl ?_)))))))
      refine wU rfl rfl rfl rfl ?_
      refine wU rfl rfl rfl rfl ?_
      refine wU rfl rfl rfl rfl ?_
      refine o_gS rfl rfl rfl rfl (decide_eq_true (by omega)) (o_gD rfl rfl rfl rfl (decide_eq_true (by omega)) ?_)
      refine zQ rfl rfl (decide_eq_true (by omega)) ?_
      refine o_gD rfl rfl rfl rfl (decide_eq_false (by omega)) (zQ rfl rfl (decide_eq_true (by omega)) ?_)
      refine o_gD rfl rfl rfl rfl rfl (zJ rfl rfl (decide_eq_false (by omega)) ?_)
      refine zQ rfl rfl rfl ?_
      refine zB rfl (o_gD rfl rfl rfl rfl rfl (zL rfl (r24) (.lrefl _) (zQ rfl rfl rfl ?_)))
      refine zC rfl (zD (zY ?_))
      refine⟨.inr rfl,_,.cons _ _ _ _ (.tmp 4) .nil,?_⟩
      exact .refl _
     ·have c4:m.length=L.length:=by
       by_cases c4:L.length<m.length
       ·exact absurd (.inr ⟨c2.symm,.inl c4⟩) hlt
       ·omega
      have c5:zAp L m=false:=by
       cases c5:zAp L m with
       |false=>rfl
       |true=>exact absurd (.inr ⟨c2.symm,.inr ⟨c4.symm,c5⟩⟩) hlt
      rw[c5]at q37
      refine kQ (yI rfl rfl (zC rfl (zD ?_)))
      refine zN [(1,.lst .ro 1 (zA bits)),(2,U.box 0 0)] ([SB.box [.int .i64 (Bk.bg b),.lst .ro 1 (zA (Bk.opens b)),.lst .ro 1 (zA (Bk.ends b)),.lst .ro 5 (scsU (Bk.scenes b)),.int .i64 (Bk.fee b),.lst .ro 1 (zA (Bk.loads b)),.int .i64 (Bk.cart b),.int .i64 (Bk.cost b),.int .i64 (Bk.feast b),.lst .ro 1 (zA (Bk.shares b))]]) (.cons rfl (.cons rfl (.nil rfl))) rfl fun fr=>?_
      refine k_seq (kQ (zR rfl rfl rfl sh25 rfl (zL rfl (q29) (.lrefl _) (zt rfl rfl (zD (k_cF rfl rfl ?_))))))
      refine zO (kQ (zR rfl rfl rfl sh25 rfl (zB rfl (zL rfl (q35) (.lrefl _) (zC rfl (zD (kQ (zR rfl rfl rfl sh25 rfl ?_))))))))
      refine zB rfl (zL rfl (q19) (.lrefl _) (zB rfl (zV rfl rfl rfl (zV rfl rfl rfl (zC rfl (zC rfl (zD ?_)))))))
      refine zN [(2,U.box 0 0),(5,.lst .ro 1 (zA L)),(6,.bool true),(7,.int .i64 0)] ([SB.box [.int .i64 (Bk.bg b),.lst .ro 1 (zA (Bk.opens b)),.lst .ro 1 (zA (Bk.ends b)),.lst .ro 5 (scsU (Bk.scenes b)),.int .i64 (Bk.fee b),.lst .ro 1 (zA (Bk.loads b)),.int .i64 (Bk.cart b),.int .i64 (Bk.cost b),.int .i64 (Bk.feast b),.lst .ro 1 (zA (Bk.shares b))]]) (.c4 rfl rfl rfl rfl (.nil rfl)) rfl fun fr=>?_
      refine kQ (zR rfl rfl rfl sh25 rfl (zL rfl (q21) (.lrefl _) (zB rfl (zV rfl rfl rfl (zV rfl rfl rfl (zC rfl (zC rfl (zD ?_))))))))
      refine k_seq (kQ (zB rfl (yy rfl rfl rfl (zB rfl (o_gD rfl rfl rfl rfl rfl (zB rfl (o_gD rfl rfl rfl rfl rfl (yy rfl rfl rfl ?_))))))))
      refine o_gD rfl rfl rfl rfl rfl (zB rfl (o_gS rfl rfl rfl rfl rfl (o_gS rfl rfl rfl rfl rfl (o_gD rfl rfl rfl rfl rfl (zJ rfl rfl rfl ?_)))))
      refine zI [(2,U.box 0 0),(5,.lst .ro 1 (zA L)),(6,.bool true),(8,.lst .ro 1 (zA m)),(9,.int .i64 0),(32,U.bool (decide ((0:Int)≠(0:Int)))),(38,.bool false)] [] ([SB.box [.int .i64 (Bk.bg b),.lst .ro 1 (zA (Bk.opens b)),.lst .ro 1 (zA (Bk.ends b)),.lst .ro 5 (scsU (Bk.scenes b)),.int .i64 (Bk.fee b),.lst .ro 1 (zA (Bk.loads b)),.int .i64 (Bk.cart b),.int .i64 (Bk.cost b),.int .i64 (Bk.feast b),.lst .ro 1 (zA (Bk.shares b))]]) (.c4 rfl rfl rfl rfl (.cons rfl (.cons rfl (.cons rfl (.nil rfl))))) rfl rfl fun fr=>?_
      refine zJ rfl rfl rfl ?_
      refine zB rfl (o_gD rfl rfl rfl rfl rfl (zB rfl (o_gD rfl rfl rfl rfl rfl (wZ rfl rfl rfl (o_gD rfl rfl rfl rfl rfl (zB rfl (o_gD rfl rfl rfl rfl rfl (zR rfl rfl rfl sh25 rfl ?_))))))))
      refine o_gD rfl rfl rfl rfl rfl (zB rfl (o_gD rfl rfl rfl rfl rfl (zL rfl (q31) (.lrefl _) (o_gD rfl rfl rfl rfl rfl (zt rfl rfl ?_)))))
      refine zI [(2,U.box 0 0),(5,.lst .ro 1 (zA L)),(6,.bool true),(8,.lst .ro 1 (zA m)),(9,.int .i64 0),(40,.bool false),(43,U.bool (decide ((0:Int)=(0:Int)))),(47,U.bool !Bool.true)] [] ([SB.box [.int .i64 (Bk.bg b),.lst .ro 1 (zA (Bk.opens b)),.lst .ro 1 (zA (Bk.ends b)),.lst .ro 5 (scsU (Bk.scenes b)),.int .i64 (Bk.fee b),.lst .ro 1 (zA (Bk.loads b)),.int .i64 (Bk.cart b),.int .i64 (Bk.cost b),.int .i64 (Bk.feast b),.lst .ro 1 (zA (Bk.shares b))]]) (.c4 rfl rfl rfl rfl (.c4 rfl rfl rfl rfl (.nil rfl))) rfl rfl fun fr=>?_
      refine o_gD rfl rfl rfl rfl rfl ?_
      refine zI [(2,U.box 0 0),(5,.lst .ro 1 (zA L)),(6,.bool true),(8,.lst .ro 1 (zA m)),(9,.int .i64 0),(40,.bool false),(43,U.bool (decide ((0:Int)=(0:Int)))),(47,U.bool !Bool.true)] [] ([SB.box [.int .i64 (Bk.bg b),.lst .ro 1 (zA (Bk.opens b)),.lst .ro 1 (zA (Bk.ends b)),.lst .ro 5 (scsU (Bk.scenes b)),.int .i64 (Bk.fee b),.lst .ro 1 (zA (Bk.loads b)),.int .i64 (Bk.cart b),.int .i64 (Bk.cost b),.int .i64 (Bk.feast b),.lst .ro 1 (zA (Bk.shares b))]]) (.c4 rfl rfl rfl rfl (.c4 rfl rfl rfl rfl (.nil rfl))) rfl rfl fun fr=>?_
      refine zQ rfl rfl rfl ?_
      refine zJ rfl rfl rfl ?_
      refine zD ?_
      refine zN [(2,U.box 0 0),(5,.lst .ro 1 (zA L)),(6,.bool true),(8,.lst .ro 1 (zA m)),(9,.int .i64 0),(49,U.bool !Bool.true)] ([SB.box [.int .i64 (Bk.bg b),.lst .ro 1 (zA (Bk.opens b)),.lst .ro 1 (zA (Bk.ends b)),.lst .ro 5 (scsU (Bk.scenes b)),.int .i64 (Bk.fee b),.lst .ro 1 (zA (Bk.loads b)),.int .i64 (Bk.cart b),.int .i64 (Bk.cost b),.int .i64 (Bk.feast b),.lst .ro 1 (zA (Bk.shares b))]]) (.c4 rfl rfl rfl rfl (.cons rfl (.cons rfl (.nil rfl)))) rfl fun fr=>?_
      refine k_cF rfl rfl ?_
      refine zO (k_seq (kQ (zB rfl (zt rfl rfl (zD (k_cF rfl rfl ?_))))))
      refine zO (k_seq (zAu [.read true,.plain,.read false,.read true,.plain,.plain,.plain,.plain] (by kernel_rfl) (by kernel_rfl) (by kernel_rfl) ?_))
      refine yN rfl (zR rfl rfl rfl sh25 rfl (zD rfl)) ?_
      refine zK (zB rfl (zD rfl)) (zCA rfl (q32) (.int _ _) (.lrefl _) ?_)
      refine yN rfl (zR rfl rfl rfl sh25 rfl (zD rfl)) ?_
      refine zK (zB rfl (zD rfl)) (zK (zL rfl (q32m) (.lrefl _) (zD rfl)) ?_)
      refine zK (zC rfl (zD rfl)) ?_
      refine zK (zC rfl (zD rfl)) ?_
      refine zDT ?_
      refine kQ (zB rfl (wZ rfl rfl rfl (zB rfl (o_gD rfl rfl rfl rfl rfl (zB rfl (o_gD rfl rfl rfl rfl rfl (zB rfl (o_gD rfl rfl rfl rfl rfl ?_))))))))
      refine zX rfl rfl rfl (o_gD rfl rfl rfl rfl rfl (zB rfl (o_gD rfl rfl rfl rfl (decide_eq_false (by omega)) (zB rfl (o_gD rfl rfl rfl rfl (decide_eq_false (by omega)) (zB rfl ?_))))))
      refine zI [(5,.lst .ro 1 (zA L)),(8,.lst .ro 1 (zA m)),(61,U.bool (decide ((0:Int)=(0:Int)))),(65,U.bool (decide (wm<wL))),(66,.int .i64 wm),(67,.int .i64 wL)] [] ([SB.box [.int .i64 (Bk.bg b),.lst .ro 1 (zA (Bk.opens b)),.lst .ro 1 (zA (Bk.ends b)),.lst .ro 5 (scsU (Bk.scenes b)),.int .i64 (Bk.fee b),.lst .ro 1 (zA (Bk.loads b)),.int .i64 (Bk.cart b),.int .i64 (Bk.cost b),.int .i64 (Bk.feast b),.lst .ro 1 (zA (Bk.shares b))]]) (.c4 rfl rfl rfl rfl (.cons rfl (.cons rfl (.nil rfl)))) rfl rfl fun fr=>?_
      refine o_gD rfl rfl rfl rfl (decide_eq_false (by omega)) ?_
      refine zI [(5,.lst .ro 1 (zA L)),(8,.lst .ro 1 (zA m)),(61,U.bool (decide ((0:Int)=(0:Int)))),(65,U.bool (decide (wm<wL))),(66,.int .i64 wm),(67,.int .i64 wL)] [] ([SB.box [.int .i64 (Bk.bg b),.lst .ro 1 (zA (Bk.opens b)),.lst .ro 1 (zA (Bk.ends b)),.lst .ro 5 (scsU (Bk.scenes b)),.int .i64 (Bk.fee b),.lst .ro 1 (zA (Bk.loads b)),.int .i64 (Bk.cart b),.int .i64 (Bk.cost b),.int .i64 (Bk.feast b),.lst .ro 1 (zA (Bk.shares b))]]) (.c4 rfl rfl rfl rfl (.cons rfl (.cons rfl (.nil rfl)))) rfl rfl fun fr=>?_
      refine wZ rfl rfl rfl (o_gD rfl rfl rfl rfl (decide_eq_false (by omega)) (zB rfl (o_gD rfl rfl rfl rfl (decide_eq_true (by omega)) ?_)))
      refine zB rfl (o_gD rfl rfl rfl rfl (decide_eq_true (by omega)) ?_)
      refine zb rfl ty22 rfl (List.length_map _) ?_
      refine o_gD rfl rfl rfl rfl (decide_eq_true (by omega)) ?_
      refine zB rfl (o_gD rfl rfl rfl rfl (decide_eq_true (by omega)) ?_)
      refine zb rfl ty22 rfl (List.length_map _) ?_
      refine o_gD rfl rfl rfl rfl (decide_eq_true (by omega)) ?_
      refine zX rfl rfl rfl (o_gD rfl rfl rfl rfl (decide_eq_true (by omega)) ?_)
      refine zB rfl (o_gD rfl rfl rfl rfl (decide_eq_false (by omega)) (zB rfl (o_gD rfl rfl rfl rfl (decide_eq_false (by omega)) (zb rfl ty22 rfl (List.length_map _) ?_))))
      refine o_gD rfl rfl rfl rfl (decide_eq_false (by omega)) (zB rfl (o_gD rfl rfl rfl rfl (decide_eq_false (by omega)) (zb rfl ty22 rfl (List.length_map _) ?_)))
      refine o_gD rfl rfl rfl rfl (decide_eq_false (by omega)) (wZ rfl rfl rfl (o_gD rfl rfl rfl rfl (decide_eq_false (by omega)) (zB rfl (o_gD rfl rfl rfl rfl (decide_eq_true (by omega)) ?_))))
      refine zB rfl (o_gD rfl rfl rfl rfl (decide_eq_true (by omega)) ?_)
      refine zB rfl (o_gD rfl rfl rfl rfl (decide_eq_true (by omega)) ?_)
      refine zL rfl (q37) (.lrefl _) (o_gD rfl rfl rfl rfl (decide_eq_true (by omega)) ?_)
      refine zt rfl rfl (o_gD rfl rfl rfl rfl (decide_eq_false (by omega)) (zQ rfl rfl (decide_eq_true (by omega)) ?_))
      refine o_gD rfl rfl rfl rfl (decide_eq_true (by omega)) ?_
      refine zJ rfl rfl (decide_eq_false (by omega)) ?_
      refine o_gD rfl rfl rfl rfl (decide_eq_false (by omega)) (zQ rfl rfl (decide_eq_true (by omega)) ?_)
      refine o_gD rfl rfl rfl rfl rfl (zJ rfl rfl (decide_eq_false (by omega)) ?_)
      refine zQ rfl rfl rfl ?_
      refine zB rfl (o_gD rfl rfl rfl rfl rfl (zL rfl (r24) (.lrefl _) (zQ rfl rfl rfl ?_)))
      refine zC rfl (zD (zY ?_))
      refine⟨.inr rfl,_,.cons _ _ _ _ (.tmp 4) .nil,?_⟩
      exact .refl _
end
section
variable {is:FuncId→Bool}{orc:Known}
theorem zGG{P:Program}{t:TypeId}(n:Nat)(h:(match P.underlying t with|some (.struct fs)=>Nat.beq fs.size n|_=>false)=true):∃fs,P.underlying t=some (.struct fs):=by
 cases hu:P.underlying t with
 |none=>rw[hu]at h;cases h
 |some ty=>rw[hu]at h;cases ty<;>first|exact⟨_,rfl⟩|cases h
theorem u3:Tryd.prog.underlying 3=some (.int .i64):=by kernel_rfl
theorem u4:Tryd.prog.underlying 4=some .bool:=by kernel_rfl
theorem u22:Tryd.prog.underlying 22=some (.slice 3):=by kernel_rfl
theorem u23:Tryd.prog.underlying 23=some (.slice 50):=by kernel_rfl
def fts(P:Program)(t:TypeId):List TypeId:=match P.underlying t with|some (.struct fs)=>fs.toList.map (·.type)|_=>[]
theorem f25:fts Tryd.prog 25=[3,22,22,23,3,22,3,3,3,22]:=by kernel_rfl
theorem f50:fts Tryd.prog 50=[3,3,48,4]:=by kernel_rfl
theorem f48:fts Tryd.prog 48=[3,3]:=by kernel_rfl
theorem clq50:Program.cellsOf Tryd.prog 50=5:=by kernel_rfl
theorem clq3:Program.cellsOf Tryd.prog 3=1:=by kernel_rfl
theorem zBM{cs:List U}(h:Shp Tryd.prog 3 cs):∃n:Int,cs=[.int .i64 n]:=by
 cases h with
 |int _ k n hu _=>rw[u3]at hu;cases hu;exact⟨n,rfl⟩
 |bool _ _ hu=>rw[u3]at hu;cases hu
 |str _ _ hu=>rw[u3]at hu;cases hu
 |slice _ _ _ hu=>rw[u3]at hu;cases hu
 |struct _ _ _ hu=>rw[u3]at hu;cases hu
 |array _ _ _ _ hu=>rw[u3]at hu;cases hu
theorem shp_bool{cs:List U}(h:Shp Tryd.prog 4 cs):∃n:Bool,cs=[.bool n]:=by
 cases h with
 |int _ k n hu _=>rw[u4]at hu;cases hu
 |bool _ n hu=>exact⟨n,rfl⟩
 |str _ _ hu=>rw[u4]at hu;cases hu
 |slice _ _ _ hu=>rw[u4]at hu;cases hu
 |struct _ _ _ hu=>rw[u4]at hu;cases hu
 |array _ _ _ _ hu=>rw[u4]at hu;cases hu
theorem zDx{P:Program}{t:TypeId}{cs:List U}(h:Shp P t cs)(hne:fts P t≠[]):∃fs:List Field,fs.map (·.type)=fts P t∧ShpF P fs cs:=by
 have no:∀{ty},P.underlying t=some ty→(∀fs,ty≠.struct fs)→False:=fun hu hn=>hne (by unfold fts;rw[hu];split<;>simp_all)
 cases h with
 |struct _ fs _ hu hf=>exact⟨fs.toList,by unfold fts;rw[hu],hf⟩
 |int _ k n hu _=>exact(no hu (by intro fs h;cases h)).elim
 |bool _ _ hu=>exact(no hu (by intro fs h;cases h)).elim
 |str _ _ hu=>exact(no hu (by intro fs h;cases h)).elim
 |slice _ _ _ hu=>exact(no hu (by intro fs h;cases h)).elim
 |array _ _ _ _ hu=>exact(no hu (by intro fs h;cases h)).elim
theorem ya{P:Program}{fs:List Field}{t:TypeId}{ts:List TypeId}{cs:List U}(h:ShpF P fs cs)(e:fs.map (·.type)=t::ts):∃gs xs ys,cs=xs++ys∧Shp P t xs∧ShpF P gs ys∧gs.map (·.type)=ts:=by
 cases h with
 |nil=>cases e
 |cons f fs xs ys h1 h2=>
  simp only[List.map_cons,List.cons.injEq]at e
  obtain⟨rfl,rfl⟩:=e
  exact⟨fs,xs,ys,rfl,h1,h2,rfl⟩
theorem shpF_nil{P:Program}{fs:List Field}{cs:List U}(h:ShpF P fs cs)(e:fs.map (·.type)=[]):cs=[]:=by
 cases h with
 |nil=>rfl
 |cons=>cases e
theorem shp_span{cs:List U}(h:Shp Tryd.prog 48 cs):∃a b:Int,cs=[.int .i64 a,.int .i64 b]:=by
 obtain⟨fs,e,hf⟩:=zDx h (by rw[f48];simp)
 rw[f48]at e
 obtain⟨g1,a1,b1,rfl,k1,r1,e1⟩:=ya hf e
 obtain⟨g2,a2,b2,rfl,k2,r2,e2⟩:=ya r1 e1
 obtain rfl:=shpF_nil r2 e2
 obtain⟨x,rfl⟩:=zBM k1
 obtain⟨y,rfl⟩:=zBM k2
 exact⟨x,y,rfl⟩
theorem shpL_map{P:Program}{e:TypeId}{α:Type}{f:α→List U}{css:List (List U)}(h:ShpL P e css)(k:∀cs,Shp P e cs→∃q,cs=f q):∃l:List α,css=l.map f:=by
 induction css with
 |nil=>exact⟨[],rfl⟩
 |cons cs css ih=>
  cases h with
  |cons _ _ _ h1 h2=>
   obtain⟨q,rfl⟩:=k _ h1
   obtain⟨l,rfl⟩:=ih h2
   exact⟨q::l,rfl⟩
theorem shp_slice{P:Program}{t e:TypeId}{cs:List U}(hu:P.underlying t=some (.slice e))(h:Shp P t cs):∃css,ShpL P e css∧cs=[.lst .ro (P.cellsOf e) (css.map (eU P e))]:=by
 cases h with
 |slice _ e' css hu' hl=>rw[hu]at hu';cases hu';exact⟨css,hl,rfl⟩
 |int _ k n hu' _=>rw[hu]at hu';cases hu'
 |bool _ _ hu'=>rw[hu]at hu';cases hu'
 |str _ _ hu'=>rw[hu]at hu';cases hu'
 |struct _ _ _ hu'=>rw[hu]at hu';cases hu'
 |array _ _ _ _ hu'=>rw[hu]at hu';cases hu'
theorem eu50:∀cs,eU Tryd.prog 50 cs=.agg cs:=by
 obtain⟨fs,h⟩:=zGG (P:=Tryd.prog) (t:=50) 4 (by kernel_rfl)
 intro cs;unfold eU;rw[h]
theorem eu3:∀cs,eU Tryd.prog 3 cs=cs.headD .junk:=by
 intro cs;unfold eU;rw[u3]
theorem map_ints{F:List U→U}(he:∀cs,F cs=cs.headD .junk)(l:List Int):(l.map fun n:Int=>[U.int .i64 n]).map F=zA l:=by
 rw[List.map_map]
 exact List.map_congr_left fun q _=>he _
theorem zDa{cs:List U}(h:Shp Tryd.prog 22 cs):∃l:List Int,cs=[.lst .ro 1 (zA l)]:=by
 obtain⟨css,hl,rfl⟩:=shp_slice u22 h
 obtain⟨l,rfl⟩:=shpL_map (f:=fun n:Int=>[.int .i64 n]) hl fun cs hcs=>zBM hcs
 refine⟨l,?_⟩
 rw[clq3,map_ints eu3]
theorem shp_scene{cs:List U}(h:Shp Tryd.prog 50 cs):∃q:Sc,cs=q.cs:=by
 obtain⟨fs,e,hf⟩:=zDx h (by rw[f50];simp)
 rw[f50]at e
 obtain⟨g1,a1,b1,rfl,k1,r1,e1⟩:=ya hf e
 obtain⟨g2,a2,b2,rfl,k2,r2,e2⟩:=ya r1 e1
 obtain⟨g3,a3,b3,rfl,k3,r3,e3⟩:=ya r2 e2
 obtain⟨g4,a4,b4,rfl,k4,r4,e4⟩:=ya r3 e3
 obtain rfl:=shpF_nil r4 e4
 obtain⟨x,rfl⟩:=zBM k1
 obtain⟨y,rfl⟩:=zBM k2
 obtain⟨lo,up,rfl⟩:=shp_span k3
 obtain⟨m,rfl⟩:=shp_bool k4
 exact⟨⟨x,y,lo,up,m⟩,rfl⟩
theorem map_scs{F:List U→U}(he:∀cs,F cs=.agg cs)(l:List Sc):(l.map fun q:Sc=>q.cs).map F=scsU l:=by
 rw[List.map_map]
 exact List.map_congr_left fun q _=>he _
theorem shp_scenes{cs:List U}(h:Shp Tryd.prog 23 cs):∃l:List Sc,cs=[.lst .ro 5 (scsU l)]:=by
 obtain⟨css,hl,rfl⟩:=shp_slice u23 h
 obtain⟨l,rfl⟩:=shpL_map (f:=fun q:Sc=>q.cs) hl fun cs hcs=>shp_scene hcs
 refine⟨l,?_⟩
 rw[clq50,map_scs eu50]
theorem shp_bk{cs:List U}(h:Shp Tryd.prog 25 cs):∃b:Bk,cs=b.cs:=by
 obtain⟨fs,e,hf⟩:=zDx h (by rw[f25];simp)
 rw[f25]at e
 obtain⟨g1,a1,b1,rfl,k1,r1,e1⟩:=ya hf e
 obtain⟨g2,a2,b2,rfl,k2,r2,e2⟩:=ya r1 e1
 obtain⟨g3,a3,b3,rfl,k3,r3,e3⟩:=ya r2 e2
 obtain⟨g4,a4,b4,rfl,k4,r4,e4⟩:=ya r3 e3
 obtain⟨g5,a5,b5,rfl,k5,r5,e5⟩:=ya r4 e4
 obtain⟨g6,a6,b6,rfl,k6,r6,e6⟩:=ya r5 e5
 obtain⟨g7,a7,b7,rfl,k7,r7,e7⟩:=ya r6 e6
 obtain⟨g8,a8,b8,rfl,k8,r8,e8⟩:=ya r7 e7
 obtain⟨g9,a9,b9,rfl,k9,r9,e9⟩:=ya r8 e8
 obtain⟨g10,a10,b10,rfl,k10,r10,e10⟩:=ya r9 e9
 obtain rfl:=shpF_nil r10 e10
 obtain⟨bg,rfl⟩:=zBM k1
 obtain⟨opens,rfl⟩:=zDa k2
 obtain⟨ends,rfl⟩:=zDa k3
 obtain⟨scenes,rfl⟩:=shp_scenes k4
 obtain⟨fee,rfl⟩:=zBM k5
 obtain⟨loads,rfl⟩:=zDa k6
 obtain⟨cart,rfl⟩:=zBM k7
 obtain⟨cost,rfl⟩:=zBM k8
 obtain⟨feast,rfl⟩:=zBM k9
 obtain⟨shares,rfl⟩:=zDa k10
 exact⟨⟨bg,opens,ends,scenes,fee,loads,cart,cost,feast,shares⟩,rfl⟩
theorem und25:∃fs,Tryd.prog.underlying 25=some (.struct fs):=zGG (P:=Tryd.prog) (t:=25) 10 (by kernel_rfl)
theorem arg_bk{u:U}(h:∃cs,u=.agg cs∧Shp Tryd.prog 25 cs):∃b:Bk,u=b.u:=by
 obtain⟨cs,rfl,h⟩:=h
 obtain⟨b,rfl⟩:=shp_bk h
 exact⟨b,rfl⟩
theorem arg_ints{u:U}(h:Shp Tryd.prog 22 [u]):∃l:List Int,u=.lst .ro 1 (zA l):=by
 obtain⟨l,e⟩:=zDa h
 cases e
 exact⟨l,rfl⟩
end
section
variable {is:FuncId→Bool}{orc:Known}
theorem ret7_all(hi:Off is)(r24:RetP Tryd.prog is orc 24 [] (.bool true)):∀us,ShpAs Tryd.prog [25,22] us→RetP Tryd.prog is orc 7 us (.bool true):=by
 intro us h
 cases h with
 |cons _ _ u us h1 h=>cases h with
 |cons _ _ v us h2 h=>
 cases h
 obtain⟨fs,hu⟩:=und25
 unfold ShpA at h1 h2
 rw[hu]at h1
 rw[u22]at h2
 obtain⟨b,rfl⟩:=arg_bk h1
 obtain⟨l,rfl⟩:=arg_ints h2
 exact ret7 hi b l r24
end
end Go.Proofs.YtlknfhjfkcboiaaDoor.nightLeast
