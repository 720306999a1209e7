import Derived.Test.YtlknfhjfkcboiaaDoorVamT12
set_option linter.unusedVariables false
set_option linter.unusedSimpArgs false
set_option linter.constructorNameAsVariable false
namespace Go.Proofs.YtlknfhjfkcboiaaDoor.night
open Vam
variable {is:FuncId→Bool}{orc:Known}
noncomputable def b65:Code:=(Tryd.f65.body).getD .skip
theorem body65:bodyOf Tryd.prog 65=some (7,b65,[.tmp 3]):=by kernel_rfl
theorem pure65:pureFn Tryd.prog 65=false:=by kernel_rfl
noncomputable def b67:Code:=(Tryd.f67.body).getD .skip
theorem body67:bodyOf Tryd.prog 67=some (36,b67,[.cell 4 72,.tmp 5]):=by kernel_rfl
theorem pure67:pureFn Tryd.prog 67=true:=by kernel_rfl
noncomputable def b27:Code:=(Tryd.f27.body).getD .skip
theorem body27:bodyOf Tryd.prog 27=some (31,b27,[.tmp 4,.tmp 5]):=by kernel_rfl
theorem pure27:pureFn Tryd.prog 27=true:=by kernel_rfl
def plF(b:Bk):Nat→List Int→Bool
 |_,[]=>true
 |i,x::l=>(match b.scenes[i]? with|none=>false|some q=>inS q.lo q.hi x)&&plF b (i+1) l
def zEM(b:Bk)(t:List Int):Bool:=decide (t.length=b.scenes.length)&&plF b 0 t
set_option maxHeartbeats 8000000 in
theorem ret66(hi:Off is){b:Bk}(h:BOk b)(t:List Int):RetP Tryd.prog is orc 66 [b.u,.lst .ro 1 (zF t)] (.bool (zEM b t)):=by
 refine zw body66 pure66 (hi 66 (by decide)) rfl rfl (yE (wV b 4) (zY 6 .ro (fun h=>by cases h) 1 t)) (.inl (.bool _ _)) ?_
 have hn:=h.sn
 unfold zEM
 by_cases hl:t.length=b.scenes.length
 ·rw[decide_eq_true hl,Bool.true_and]
  generalize hz:plF b 0 t=z
  refine kQ (yF rfl rfl (zB rfl (zC ?_)))
  refine zH [(1,.lst .ro 1 (zF t)),(2,U.box 0 0)] ([SB.box (Bk.cs b)]) (.cons rfl (.cons rfl (.nil rfl))) rfl fun fr=>?_
  refine k_seq (kQ (zA rfl (zd rfl ty22 rfl (List.length_map _) ?_)))
  refine zE rfl rfl yh (zE rfl rfl zo (zG rfl rfl rfl sh23 rfl (zd rfl ty23 rfl (List.length_map _) ?_)))
  refine wF rfl rfl rfl (zC (k_cF rfl (decide_eq_false (by omega)) (zL (k_seq (kQ (zA rfl (zd rfl ty22 rfl (List.length_map _) ?_)))))))
  refine zA rfl (zC (zK ?_))
  refine yZ (fun kk s2=>∃i:Nat,kk+i=t.length∧z=plF b i (t.drop i)∧s2.st=[.box (Bk.cs b)]∧Holds s2 [(2,.box 0 0),(14,.lst .ro 1 (zF t)),(15,.int .i64 t.length),(16,.int .i64 i)]) (fun kk s2 hI=>?_) t.length _ ⟨0,rfl,hz.symm,rfl,.c4 rfl rfl rfl rfl (.nil rfl)⟩
  obtain⟨i,hk,hw,hst2,hs2⟩:=hI
  clear hz
  refine zH _ _ hs2 hst2 fun fr2=>?_
  by_cases hin:i<t.length
  ·obtain⟨x,hx⟩:∃x,t[i]? =some x:=⟨t[i],List.getElem?_eq_getElem hin⟩
   rw[zBJ hx]at hw
   obtain⟨q,hq⟩:∃q,b.scenes[i]? =some q:=⟨b.scenes[i]'(by omega),List.getElem?_eq_getElem (by omega)⟩
   have hw:z=((match b.scenes[i]? with|none=>false|some q=>inS q.lo q.hi x)&&plF b (i+1) (t.drop (i+1))):=hw
   rw[hq]at hw
   have hw:z=(inS q.lo q.hi x&&plF b (i+1) (t.drop (i+1))):=hw
   have q84:=ret84 (orc:=orc) hi h hq x
   cases hs:inS q.lo q.hi x with
   |true=>
    rw[hs]at hw q84
    have hw:z=plF b (i+1) (t.drop (i+1)):=hw
    refine kQ (zW rfl rfl rfl (zC (k_seq (k_cT rfl (decide_eq_true (by omega)) (zL (k_seq (zK (kQ ?_))))))))
    refine zA rfl (zh (u:=.int .i64 (x)) rfl ty22 rfl rfl (Int.natCast_nonneg _) (by simp[hx]) cl3 ?_)
    refine zR rfl rfl sh3 rfl ?_
    refine zB rfl (zB rfl (zC (kQ (zS rfl rfl rfl sh70 rfl (zA rfl (zA rfl (zM rfl (q84) (.lrefl _) (yC rfl rfl ?_))))))))
    refine zC ?_
    refine zH [(2,U.box 0 0),(14,.lst .ro 1 (zF t)),(15,.int .i64 ↑(List.length t)),(16,.int .i64 ↑i),(25,U.bool !Bool.true)] ([SB.box (Bk.cs b)]) (.c4 rfl rfl rfl rfl (.cons rfl (.nil rfl))) rfl fun fr=>?_
    refine k_cF rfl rfl ?_
    refine zL (k_region ?_)
    refine yH rfl rfl rfl (by unfold I64;omega) (zA rfl (zC ?_))
    exact⟨kk - 1,by omega,i+1,by omega,hw,rfl,.c4 rfl rfl rfl rfl (.nil rfl)⟩
   |false=>
    rw[hs]at hw q84
    obtain rfl:z=false:=hw
    refine kQ (zW rfl rfl rfl (zC (k_seq (k_cT rfl (decide_eq_true (by omega)) (zL (k_seq (zK (kQ ?_))))))))
    refine zA rfl (zh (u:=.int .i64 (x)) rfl ty22 rfl rfl (Int.natCast_nonneg _) (by simp[hx]) cl3 ?_)
    refine zR rfl rfl sh3 rfl ?_
    refine zB rfl (zB rfl (zC (kQ (zS rfl rfl rfl sh70 rfl (zA rfl (zA rfl (zM rfl (q84) (.lrefl _) (yC rfl rfl ?_))))))))
    refine zC ?_
    refine zH [(2,U.box 0 0),(14,.lst .ro 1 (zF t)),(15,.int .i64 ↑(List.length t)),(16,.int .i64 ↑i),(25,U.bool !Bool.false)] ([SB.box (Bk.cs b)]) (.c4 rfl rfl rfl rfl (.cons rfl (.nil rfl))) rfl fun fr=>?_
    refine k_cT rfl rfl ?_
    refine kQ (zB rfl (zC (zX ?_)))
    refine⟨.inr rfl,_,.cons _ _ _ _ (.tmp 4) .nil,?_⟩
    exact .refl _
  ·have hd:t.drop i=[]:=List.drop_eq_nil_of_le (by omega)
   rw[hd]at hw
   obtain rfl:z=true:=hw
   refine kQ (zW rfl rfl rfl (zC (k_seq (k_cF rfl (decide_eq_false (by omega)) (yO (kQ (zB rfl (zC ?_))))))))
   refine zX ?_
   refine⟨.inr rfl,_,.cons _ _ _ _ (.tmp 4) .nil,?_⟩
   exact .refl _
 ·rw[decide_eq_false hl,Bool.false_and]
  refine kQ (yF rfl rfl (zB rfl (zC ?_)))
  refine zH [(1,.lst .ro 1 (zF t)),(2,U.box 0 0)] ([SB.box (Bk.cs b)]) (.cons rfl (.cons rfl (.nil rfl))) rfl fun fr=>?_
  refine k_seq (kQ (zA rfl (zd rfl ty22 rfl (List.length_map _) ?_)))
  refine zE rfl rfl yh (zE rfl rfl zo (zG rfl rfl rfl sh23 rfl (zd rfl ty23 rfl (List.length_map _) ?_)))
  refine wF rfl rfl rfl (zC (k_cT rfl (decide_eq_true (by omega)) (kQ (zB rfl (zC (zX ?_))))))
  refine⟨.inr rfl,_,.cons _ _ _ _ (.tmp 4) .nil,?_⟩
  exact .refl _
theorem plF_at{b:Bk}:∀(l:List Int) (i:Nat),plF b i l=true→∀(j:Nat) (x:Int),l[j]? =some x→∃q,b.scenes[i+j]? =some q∧q.lo≤x∧x≤q.hi:=by
 intro l
 induction l with
 |nil=>intro i _ j x h;simp at h
 |cons y l ih=>
  intro i h j x hx
  unfold plF at h
  rw[Bool.and_eq_true]at h
  cases j with
  |zero=>
   cases hx
   cases hq:b.scenes[i]? with
   |none=>rw[hq]at h;cases h.1
   |some q=>
    rw[hq]at h
    exact⟨q,rfl,zAr.1 h.1⟩
  |succ j=>
   have:=ih (i+1) h.2 j x (by simpa using hx)
   rw[show i+(j+1)=i+1+j by omega];exact this
theorem wpc65(hi:Off is){b:Bk}(h:BOk b){t:List Int}{st:List SB}{j:Nat}(hj:st[j]? =some (.box [.lst .ro 1 (zF t)])):WpC Tryd.prog is orc 65 [b.u,.box j 0] st fun u st'=>u=.bool (zEM b t)∧∃e,st'=st++e:=by
 refine zEk body65 pure65 rfl rfl ?_
 have q66:=ret66 (orc:=orc) hi h t
 generalize zEM b t=z at*
 refine kQ (yF rfl rfl (zB rfl (zC ?_)))
 refine zH [(1,U.box j 0),(2,U.box (List.length st) 0)] (st++[SB.box (Bk.cs b)]) (.cons rfl (.cons rfl (.nil rfl))) rfl fun fr=>?_
 refine kQ (zS rfl rfl (zk _ _) sh70 rfl ?_)
 refine zG rfl rfl (ya hj) sh22 rfl ?_
 refine zM rfl (q66) (.lrefl _) (zB rfl (zC (zX ?_)))
 refine⟨.inr rfl,_,.cons _ _ _ _ (.tmp 3) .nil,?_⟩
 exact⟨_,.refl _,rfl,_,rfl⟩
def zBp(b:Bk)(t:List Int):Nat→Option (List Int)
 |0=>some []
 |k+1=>match zBp b t k with
  |none=>none
  |some d=>match cueO b d with
   |none=>none
   |some r=>some (d++[if(k:Int)∈r then -1 else(t[k]?).getD 0])
theorem zGe{b:Bk}{t:List Int}{k:Nat}(h:zBp b t k=none):∀n,k≤n→zBp b t n=none:=by
 intro n hn
 obtain⟨j,rfl⟩:=Nat.exists_eq_add_of_le hn
 induction j with
 |zero=>exact h
 |succ j ih=>
  rw[←Nat.add_assoc]
  show(match zBp b t (k+j)with|none=>none|some d=>_)=none
  rw[ih (by omega)]
theorem cue_none{b:Bk}{d:List Int}:cueO b d=none↔lgt b d=none:=by
 unfold cueO
 cases lgt b d with
 |none=>exact⟨(fun _=>rfl),(fun _=>rfl)⟩
 |some m=>exact⟨(fun h=>by cases h),(fun h=>by cases h)⟩
abbrev crN(b:Bk):U:=.agg [.int .i64 b.bg,.lst .ro 1 (zF b.opens),.lst .ro 1 (zF b.ends),.lst .ro 5 (scsU b.scenes),.int .i64 b.fee,.lst .ro 1 (zF b.loads),.int .i64 b.cart,.int .i64 b.cost,.int .i64 b.feast,.lst .ro 1 (zF b.shares),.lst .full 0 []]
theorem dat_crN(b:Bk)(k:Nat):Dat (k+4) (crN b):=.agg _ _ fun c hc=>by
 rcases List.mem_append.1 (show c∈b.cs++[.lst .full 0 []]from hc)with hc|hc
 ·exact dat_bkcs b k c hc
 ·rcases List.mem_singleton.1 hc with rfl;exact dat_fe _
def plU(b:Bk)(o:Option (List Int)):U:=match o with|none=>.tup [zcrU,.bool false]|some D=>.tup [crU b D,.bool true]
theorem uw_cr{b:Bk}{d:List Int}{u:U}(hu:UW (.u u) (.u (.lst .ro 1 (zF d)))):UW (.l [.agg [.int .i64 b.bg,.lst .ro 1 (zF b.opens),.lst .ro 1 (zF b.ends),.lst .ro 5 (scsU b.scenes),.int .i64 b.fee,.lst .ro 1 (zF b.loads),.int .i64 b.cart,.int .i64 b.cost,.int .i64 b.feast,.lst .ro 1 (zF b.shares),u]]) (.l [crU b d]):=.lcons _ _ _ _ (.agg _ _ (.lcons _ _ _ _ (.refl _) (.lcons _ _ _ _ (.refl _) (.lcons _ _ _ _ (.refl _) (.lcons _ _ _ _ (.refl _) (.lcons _ _ _ _ (.refl _) (.lcons _ _ _ _ (.refl _) (.lcons _ _ _ _ (.refl _) (.lcons _ _ _ _ (.refl _) (.lcons _ _ _ _ (.refl _) (.lcons _ _ _ _ (.refl _) (.lcons _ _ _ _ hu (.lrefl _))))))))))))) (.lrefl _)
theorem uw_cr1{b:Bk}{d:List Int}{u:U}(hu:UW (.u u) (.u (.lst .ro 1 (zF d)))):UW (.u (.agg [.int .i64 b.bg,.lst .ro 1 (zF b.opens),.lst .ro 1 (zF b.ends),.lst .ro 5 (scsU b.scenes),.int .i64 b.fee,.lst .ro 1 (zF b.loads),.int .i64 b.cart,.int .i64 b.cost,.int .i64 b.feast,.lst .ro 1 (zF b.shares),u])) (.u (crU b d)):=.agg _ _ (.lcons _ _ _ _ (.refl _) (.lcons _ _ _ _ (.refl _) (.lcons _ _ _ _ (.refl _) (.lcons _ _ _ _ (.refl _) (.lcons _ _ _ _ (.refl _) (.lcons _ _ _ _ (.refl _) (.lcons _ _ _ _ (.refl _) (.lcons _ _ _ _ (.refl _) (.lcons _ _ _ _ (.refl _) (.lcons _ _ _ _ (.refl _) (.lcons _ _ _ _ hu (.lrefl _))))))))))))
set_option maxHeartbeats 16000000 in
theorem ret67(hi:Off is){b:Bk}(h:BOk b){t:List Int}(ht:t.length=b.scenes.length)(htr:∀x∈t, -1≤x∧x≤600):RetP Tryd.prog is orc 67 [crN b,.lst .ro 1 (zF t)] (plU b (zBp b t b.scenes.length)):=by
 have hn:=h.sn
 refine zw body67 pure67 (hi 67 (by decide)) rfl rfl (yE (dat_crN b 4) (zY 6 .ro (fun h=>by cases h) 1 t)) (by
  cases zBp b t b.scenes.length with
  |none=>exact .inr ⟨_,rfl,yE (k:=7) (dat_zcr 3) (.bool _ _)⟩
  |some D=>exact .inr ⟨_,rfl,yE (k:=7) (zBK b D 3) (.bool _ _)⟩) ?_
 refine kQ (yF rfl rfl (zu rfl ze72 ?_))
 refine zB rfl (zC ?_)
 refine zH [(1,.lst .ro 1 (zF t)),(2,U.box 0 0),(4,U.box 1 0)] ([SB.box [.int .i64 (Bk.bg b),.lst .ro 1 (zF (Bk.opens b)),.lst .ro 1 (zF (Bk.ends b)),.lst .ro 5 (scsU (Bk.scenes b)),.int .i64 (Bk.fee b),.lst .ro 1 (zF (Bk.loads b)),.int .i64 (Bk.cart b),.int .i64 (Bk.cost b),.int .i64 (Bk.feast b),.lst .ro 1 (zF (Bk.shares b)),.lst .full 0 []],SB.box [.int .i64 0,.lst .full 0 [],.lst .full 0 [],.lst .full 0 [],.int .i64 0,.lst .full 0 [],.int .i64 0,.int .i64 0,.int .i64 0,.lst .full 0 [],.lst .full 0 []]]) (.cons rfl (.cons rfl (.cons rfl (.nil rfl)))) rfl fun fr=>?_
 refine k_seq (kQ (zA rfl (zd rfl ty22 rfl (List.length_map _) ?_)))
 refine zA rfl (zC (zK ?_))
 refine yZ (fun kk s2=>∃(i:Nat) (D:List Int),kk+i=t.length∧zBp b t i=some D∧D.length=i∧DOk b D∧s2.st=[.box [.int .i64 b.bg,.lst .ro 1 (zF b.opens),.lst .ro 1 (zF b.ends),.lst .ro 5 (scsU b.scenes),.int .i64 b.fee,.lst .ro 1 (zF b.loads),.int .i64 b.cart,.int .i64 b.cost,.int .i64 b.feast,.lst .ro 1 (zF b.shares),accI D],.box [.int .i64 0,.lst .full 0 [],.lst .full 0 [],.lst .full 0 [],.int .i64 0,.lst .full 0 [],.int .i64 0,.int .i64 0,.int .i64 0,.lst .full 0 [],.lst .full 0 []]]∧Holds s2 [(2,.box 0 0),(4,.box 1 0),(10,.lst .ro 1 (zF t)),(11,.int .i64 t.length),(12,.int .i64 i)]) (fun kk s2 hI=>?_) t.length _ ⟨0,[],rfl,rfl,rfl,dok_nil b,rfl,.c4 rfl rfl rfl rfl (.cons rfl (.nil rfl))⟩
 obtain⟨i,D,hk,hpD,hDl,hdk,hst2,hs2⟩:=hI
 by_cases hin:i<t.length
 ·obtain⟨x,hx⟩:∃x,t[i]? =some x:=⟨t[i],List.getElem?_eq_getElem hin⟩
  have hxr:=htr x (List.mem_of_getElem? hx)
  have q63:=ret63 (orc:=orc) hi h hdk
  have hsu:zBp b t (i+1)=match cueO b D with|none=>none|some r=>some (D++[if(i:Int)∈r then -1 else(t[i]?).getD 0]):=by
   show(match zBp b t i with|none=>none|some d=>_)=_
   rw[hpD]
  rw[hx]at hsu
  cases hc:cueO b D with
  |none=>
   rw[cue_none.1 hc,hc]at q63
   rw[hc]at hsu
   have hN:=zGe hsu b.scenes.length (by omega)
   rw[hN]
   refine zH _ _ hs2 hst2 fun fr2=>?_
   refine kQ (zW rfl rfl rfl (zC (k_seq (k_cT rfl (decide_eq_true (by omega)) (zL (k_seq (zK (kQ ?_))))))))
   refine zA rfl (zh (u:=.int .i64 (x)) rfl ty22 rfl rfl (Int.natCast_nonneg _) (by simp[hx]) cl3 ?_)
   refine zR rfl rfl sh3 rfl ?_
   refine zB rfl (zB rfl (zC (kQ (zS rfl rfl rfl sh72 rfl (zM rfl (q63) (uw_cr (zDV D)) ?_)))))
   refine zA rfl (zN rfl rfl rfl (zN rfl rfl rfl (zB rfl (zB rfl (zC ?_)))))
   refine zH [(2,U.box 0 0),(4,U.box 1 0),(6,.int .i64 ↑i),(7,.int .i64 x),(8,.lst .full 0 []),(9,U.bool (Option.isSome Option.none)),(10,.lst .ro 1 (zF t)),(11,.int .i64 ↑(List.length t)),(12,.int .i64 ↑i)] ([SB.box [.int .i64 (Bk.bg b),.lst .ro 1 (zF (Bk.opens b)),.lst .ro 1 (zF (Bk.ends b)),.lst .ro 5 (scsU (Bk.scenes b)),.int .i64 (Bk.fee b),.lst .ro 1 (zF (Bk.loads b)),.int .i64 (Bk.cart b),.int .i64 (Bk.cost b),.int .i64 (Bk.feast b),.lst .ro 1 (zF (Bk.shares b)),accI D],SB.box [.int .i64 0,.lst .full 0 [],.lst .full 0 [],.lst .full 0 [],.int .i64 0,.lst .full 0 [],.int .i64 0,.int .i64 0,.int .i64 0,.lst .full 0 [],.lst .full 0 []]]) (.c4 rfl rfl rfl rfl (.c4 rfl rfl rfl rfl (.cons rfl (.nil rfl)))) rfl fun fr=>?_
   refine k_seq (kQ (zA rfl (yC rfl rfl (zC (k_cT rfl rfl ?_)))))
   refine kQ (wG rfl ze72 pl72 rfl rfl ?_)
   refine zc rfl rfl sh72 rfl rfl rfl rfl rfl ?_
   refine zB rfl (zC (zX ?_))
   refine⟨.inr rfl,_,.cons _ _ _ _ (.cellN 4 72 _ _ _ _ rfl rfl sh72 rfl) (.cons _ _ _ _ (.tmp 5) .nil),?_⟩
   exact .refl _
   done
  |some r=>
   obtain⟨m,hm⟩:∃m,lgt b D=some m:=by
    cases ho:lgt b D with
    |none=>rw[cue_none.2 ho]at hc;cases hc
    |some m=>exact⟨m,rfl⟩
   obtain⟨r2,hc2,hmr,hrg,hcho⟩:=zFX hdk hm
   rw[hc]at hc2
   cases hc2
   have hrl:=hcho.len
   rw[hm,hc]at q63
   have q63:RetP Tryd.prog is orc 63 [crU b D] (.tup [.lst .ro 1 (zF r),.bool true]):=q63
   have q87:=ret87 (orc:=orc) hi r i (by omega)
   rw[hc]at hsu
   have hsu:zBp b t (i+1)=some (D++[if(i:Int)∈r then -1 else x]):=hsu
   obtain⟨y,hy⟩:∃y,y=if(i:Int)∈r then -1 else x:=⟨_,rfl⟩
   have hyr: -1≤y∧y≤600:=by rw[hy];split<;>omega
   have hdk2:DOk b (D++[y]):=⟨by simp;omega,fun z hz=>by
    rcases List.mem_append.1 hz with hz|hz
    ·exact hdk.rg z hz
    ·rcases List.mem_singleton.1 hz with rfl;exact hyr⟩
   by_cases hir:(i:Int)∈r
   ·rw[decide_eq_true hir]at q87
    rw[if_pos hir]at hsu hy
    rw[hy]at hdk2
    cases D with
    |nil=>
     refine zH _ _ hs2 hst2 fun fr2=>?_
     refine kQ (zW rfl rfl rfl (zC (k_seq (k_cT rfl (decide_eq_true (by omega)) (zL (k_seq (zK (kQ ?_))))))))
     refine zA rfl (zh (u:=.int .i64 (x)) rfl ty22 rfl rfl (Int.natCast_nonneg _) (by simp[hx]) cl3 ?_)
     refine zR rfl rfl sh3 rfl ?_
     refine zB rfl (zB rfl (zC (kQ (zS rfl rfl rfl sh72 rfl (zM rfl (q63) (uw_cr (zDV [])) ?_)))))
     refine zA rfl (zN rfl rfl rfl (zN rfl rfl rfl (zB rfl (zB rfl (zC ?_)))))
     refine zH [(2,U.box 0 0),(4,U.box 1 0),(6,.int .i64 ↑i),(7,.int .i64 x),(8,.lst .ro 1 (zF r)),(9,.bool true),(10,.lst .ro 1 (zF t)),(11,.int .i64 ↑(List.length t)),(12,.int .i64 ↑i)] ([SB.box [.int .i64 (Bk.bg b),.lst .ro 1 (zF (Bk.opens b)),.lst .ro 1 (zF (Bk.ends b)),.lst .ro 5 (scsU (Bk.scenes b)),.int .i64 (Bk.fee b),.lst .ro 1 (zF (Bk.loads b)),.int .i64 (Bk.cart b),.int .i64 (Bk.cost b),.int .i64 (Bk.feast b),.lst .ro 1 (zF (Bk.shares b)),accI []],SB.box [.int .i64 0,.lst .full 0 [],.lst .full 0 [],.lst .full 0 [],.int .i64 0,.lst .full 0 [],.int .i64 0,.int .i64 0,.int .i64 0,.lst .full 0 [],.lst .full 0 []]]) (.c4 rfl rfl rfl rfl (.c4 rfl rfl rfl rfl (.cons rfl (.nil rfl)))) rfl fun fr=>?_
     refine k_seq (kQ (zA rfl (yC rfl rfl (zC (k_cF rfl rfl ?_)))))
     refine zL (k_seq (kQ (zA rfl (zA rfl (zM rfl (q87) (.lrefl _) (zC (k_cT rfl rfl ?_)))))))
     refine k_region (zB rfl (zC (k_region (zE rfl rfl wN (zG rfl rfl rfl sh22 rfl (zA rfl (zAY (es:=[.int .i64 (-1:Int)]) rfl ty22 ze3 cl3 rfl rfl rfl rfl rfl rfl rfl rfl ?_)))))))
     refine zAK rfl zAs rfl rfl (by simp) (by simp) (by simp[yK,zt,oneU]) (by simp) ?_
     refine zE rfl rfl wN (yS rfl rfl sh22 rfl rfl (zC ?_))
     refine zH [(2,U.box 0 0),(4,U.box 1 0),(10,.lst .ro 1 (zF t)),(11,.int .i64 ↑(List.length t)),(12,.int .i64 ↑i)] ([SB.box [.int .i64 (Bk.bg b),.lst .ro 1 (zF (Bk.opens b)),.lst .ro 1 (zF (Bk.ends b)),.lst .ro 5 (scsU (Bk.scenes b)),.int .i64 (Bk.fee b),.lst .ro 1 (zF (Bk.loads b)),.int .i64 (Bk.cart b),.int .i64 (Bk.cost b),.int .i64 (Bk.feast b),.lst .ro 1 (zF (Bk.shares b)),U.lst Kd.own 1 [.int .i64 (-1:Int)]],SB.box [.int .i64 0,.lst .full 0 [],.lst .full 0 [],.lst .full 0 [],.int .i64 0,.lst .full 0 [],.int .i64 0,.int .i64 0,.int .i64 0,.lst .full 0 [],.lst .full 0 []]]) (.c4 rfl rfl rfl rfl (.cons rfl (.nil rfl))) rfl fun fr=>?_
     refine k_region ?_
     refine yH rfl rfl rfl (by unfold I64;omega) (zA rfl (zC ?_))
     exact⟨kk - 1,by omega,i+1,_,by omega,hsu,by simp at hDl ⊢;omega,hdk2,rfl,.c4 rfl rfl rfl rfl (.cons rfl (.nil rfl))⟩
    |cons z D=>
     refine zH _ _ hs2 hst2 fun fr2=>?_
     refine kQ (zW rfl rfl rfl (zC (k_seq (k_cT rfl (decide_eq_true (by omega)) (zL (k_seq (zK (kQ ?_))))))))
     refine zA rfl (zh (u:=.int .i64 (x)) rfl ty22 rfl rfl (Int.natCast_nonneg _) (by simp[hx]) cl3 ?_)
     refine zR rfl rfl sh3 rfl ?_
     refine zB rfl (zB rfl (zC (kQ (zS rfl rfl rfl sh72 rfl (zM rfl (q63) (uw_cr (zDV (z::D))) ?_)))))
     refine zA rfl (zN rfl rfl rfl (zN rfl rfl rfl (zB rfl (zB rfl (zC (k_seq (kQ (zA rfl ?_))))))))
     refine yC rfl rfl (zC (k_cF rfl rfl ?_))
     refine zL (k_seq (kQ (zA rfl (zA rfl (zM rfl (q87) (.lrefl _) (zC (k_cT rfl rfl ?_)))))))
     refine k_region (zB rfl (zC (k_region (zE rfl rfl wN (zG rfl rfl rfl sh22 rfl (zA rfl (zAY (es:=[.int .i64 (-1:Int)]) rfl ty22 ze3 cl3 rfl rfl rfl rfl rfl rfl rfl rfl ?_)))))))
     refine o_appendC (0) 10 rfl zAs rfl rfl rfl rfl (by simp) (by simp) (by simp[yK,zt,oneU]) (by simp at hDl ⊢;omega) ?_
     refine zE rfl rfl wN (yS rfl rfl sh22 rfl rfl (zC (k_region ?_)))
     refine yH rfl rfl rfl (by unfold I64;omega) (zA rfl (zC ?_))
     exact⟨kk - 1,by omega,i+1,_,by omega,hsu,by simp at hDl ⊢;omega,hdk2,(by rw[zAo];rfl),.c4 rfl rfl rfl rfl (.cons rfl (.nil rfl))⟩
   ·rw[decide_eq_false hir]at q87
    rw[if_neg hir]at hsu hy
    rw[hy]at hdk2
    cases D with
    |nil=>
     refine zH _ _ hs2 hst2 fun fr2=>?_
     refine kQ (zW rfl rfl rfl (zC (k_seq (k_cT rfl (decide_eq_true (by omega)) (zL (k_seq (zK (kQ ?_))))))))
     refine zA rfl (zh (u:=.int .i64 (x)) rfl ty22 rfl rfl (Int.natCast_nonneg _) (by simp[hx]) cl3 ?_)
     refine zR rfl rfl sh3 rfl ?_
     refine zB rfl (zB rfl (zC (kQ (zS rfl rfl rfl sh72 rfl (zM rfl (q63) (uw_cr (zDV [])) ?_)))))
     refine zA rfl (zN rfl rfl rfl (zN rfl rfl rfl (zB rfl (zB rfl (zC ?_)))))
     refine zH [(2,U.box 0 0),(4,U.box 1 0),(6,.int .i64 ↑i),(7,.int .i64 x),(8,.lst .ro 1 (zF r)),(9,.bool true),(10,.lst .ro 1 (zF t)),(11,.int .i64 ↑(List.length t)),(12,.int .i64 ↑i)] ([SB.box [.int .i64 (Bk.bg b),.lst .ro 1 (zF (Bk.opens b)),.lst .ro 1 (zF (Bk.ends b)),.lst .ro 5 (scsU (Bk.scenes b)),.int .i64 (Bk.fee b),.lst .ro 1 (zF (Bk.loads b)),.int .i64 (Bk.cart b),.int .i64 (Bk.cost b),.int .i64 (Bk.feast b),.lst .ro 1 (zF (Bk.shares b)),accI []],SB.box [.int .i64 0,.lst .full 0 [],.lst .full 0 [],.lst .full 0 [],.int .i64 0,.lst .full 0 [],.int .i64 0,.int .i64 0,.int .i64 0,.lst .full 0 [],.lst .full 0 []]]) (.c4 rfl rfl rfl rfl (.c4 rfl rfl rfl rfl (.cons rfl (.nil rfl)))) rfl fun fr=>?_
     refine k_seq (kQ (zA rfl (yC rfl rfl (zC (k_cF rfl rfl ?_)))))
     refine zL (k_seq (kQ (zA rfl (zA rfl (zM rfl (q87) (.lrefl _) (zC (k_cF rfl rfl ?_)))))))
     refine zL (k_region (zE rfl rfl wN (zG rfl rfl rfl sh22 rfl (zA rfl (zAY (es:=[.int .i64 x]) rfl ty22 ze3 cl3 rfl rfl rfl rfl rfl rfl rfl rfl ?_)))))
     refine zAK rfl zAs rfl rfl (by simp) (by simp) (by simp[yK,zt,oneU]) (by simp) ?_
     refine zE rfl rfl wN (yS rfl rfl sh22 rfl rfl (zC ?_))
     refine zH [(2,U.box 0 0),(4,U.box 1 0),(10,.lst .ro 1 (zF t)),(11,.int .i64 ↑(List.length t)),(12,.int .i64 ↑i)] ([SB.box [.int .i64 (Bk.bg b),.lst .ro 1 (zF (Bk.opens b)),.lst .ro 1 (zF (Bk.ends b)),.lst .ro 5 (scsU (Bk.scenes b)),.int .i64 (Bk.fee b),.lst .ro 1 (zF (Bk.loads b)),.int .i64 (Bk.cart b),.int .i64 (Bk.cost b),.int .i64 (Bk.feast b),.lst .ro 1 (zF (Bk.shares b)),U.lst Kd.own 1 [.int .i64 x]],SB.box [.int .i64 0,.lst .full 0 [],.lst .full 0 [],.lst .full 0 [],.int .i64 0,.lst .full 0 [],.int .i64 0,.int .i64 0,.int .i64 0,.lst .full 0 [],.lst .full 0 []]]) (.c4 rfl rfl rfl rfl (.cons rfl (.nil rfl))) rfl fun fr=>?_
     refine k_region ?_
     refine yH rfl rfl rfl (by unfold I64;omega) (zA rfl (zC ?_))
     exact⟨kk - 1,by omega,i+1,_,by omega,hsu,by simp at hDl ⊢;omega,hdk2,rfl,.c4 rfl rfl rfl rfl (.cons rfl (.nil rfl))⟩
    |cons z D=>
     refine zH _ _ hs2 hst2 fun fr2=>?_
     refine kQ (zW rfl rfl rfl (zC (k_seq (k_cT rfl (decide_eq_true (by omega)) (zL (k_seq (zK (kQ ?_))))))))
     refine zA rfl (zh (u:=.int .i64 (x)) rfl ty22 rfl rfl (Int.natCast_nonneg _) (by simp[hx]) cl3 ?_)
     refine zR rfl rfl sh3 rfl ?_
     refine zB rfl (zB rfl (zC (kQ (zS rfl rfl rfl sh72 rfl (zM rfl (q63) (uw_cr (zDV (z::D))) ?_)))))
     refine zA rfl (zN rfl rfl rfl (zN rfl rfl rfl (zB rfl (zB rfl (zC (k_seq (kQ (zA rfl ?_))))))))
     refine yC rfl rfl (zC (k_cF rfl rfl ?_))
     refine zL (k_seq (kQ (zA rfl (zA rfl (zM rfl (q87) (.lrefl _) (zC (k_cF rfl rfl ?_)))))))
     refine zL (k_region (zE rfl rfl wN (zG rfl rfl rfl sh22 rfl (zA rfl (zAY (es:=[.int .i64 x]) rfl ty22 ze3 cl3 rfl rfl rfl rfl rfl rfl rfl rfl ?_)))))
     refine o_appendC (0) 10 rfl zAs rfl rfl rfl rfl (by simp) (by simp) (by simp[yK,zt,oneU]) (by simp at hDl ⊢;omega) ?_
     refine zE rfl rfl wN (yS rfl rfl sh22 rfl rfl (zC (k_region ?_)))
     refine yH rfl rfl rfl (by unfold I64;omega) (zA rfl (zC ?_))
     exact⟨kk - 1,by omega,i+1,_,by omega,hsu,by simp at hDl ⊢;omega,hdk2,(by rw[zAo];rfl),.c4 rfl rfl rfl rfl (.cons rfl (.nil rfl))⟩
 ·have hie:i=b.scenes.length:=by omega
  subst hie
  rw[hpD]
  refine zH _ _ hs2 hst2 fun fr2=>?_
  refine kQ (zW rfl rfl rfl (zC (k_seq (k_cF rfl (decide_eq_false (by omega)) (yO (kQ (zS rfl rfl rfl sh72 rfl ?_)))))))
  refine o_weak 35 rfl (fun _=>rfl) (u:=crU b D) (by first|exact uw_cr1 (zDV D)|exact uw_cr1 (uw_accI D)) ?_
  refine zc rfl rfl sh72 rfl rfl rfl rfl rfl ?_
  refine zB rfl (zC (zX ?_))
  refine⟨.inr rfl,_,.cons _ _ _ _ (.cellN 4 72 _ _ _ _ rfl rfl sh72 rfl) (.cons _ _ _ _ (.tmp 5) .nil),?_⟩
  exact .refl _
  done
end Go.Proofs.YtlknfhjfkcboiaaDoor.night
