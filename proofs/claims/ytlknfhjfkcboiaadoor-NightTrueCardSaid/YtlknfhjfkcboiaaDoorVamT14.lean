import Derived.Test.YtlknfhjfkcboiaaDoorVamT13
set_option linter.unusedVariables false
set_option linter.unusedSimpArgs false
set_option linter.constructorNameAsVariable false
namespace Go.Proofs.YtlknfhjfkcboiaaDoor.night
open Vam
variable {is:FuncId→Bool}{orc:Known}
theorem by48:Program.bytesOf Tryd.prog 48=16:=by kernel_rfl
theorem ty26:tyOf Tryd.prog 26=.slice 48:=by kernel_rfl
theorem ap26_26:AppT Tryd.prog 26 26 48 2 16 ((.cons (.int .i64 0) (.cons (.int .i64 0) .nil)):V):=⟨ty26,⟨_,ty26⟩,cl48,by decide,by48,ze48,rfl⟩
noncomputable def b52:Code:=(Tryd.f52.body).getD .skip
theorem body52:bodyOf Tryd.prog 52=some (35,b52,[.tmp 4]):=by kernel_rfl
theorem pure52:pureFn Tryd.prog 52=true:=by kernel_rfl
noncomputable def b14:Code:=(Tryd.f14.body).getD .skip
theorem body14:bodyOf Tryd.prog 14=some (20,b14,[.tmp 4,.tmp 5]):=by kernel_rfl
theorem pure14:pureFn Tryd.prog 14=true:=by kernel_rfl
structure Two where
 a:Int
 b:Int
abbrev Two.u(q:Two):U:=zCa q.a q.b
abbrev wD(l:List Two):List U:=l.map Two.u
theorem dat_twos(l:List Two)(kd:Kd)(hk:kd≠.own)(k:Nat):Dat (k+2) (.lst kd 2 (wD l)):=by
 refine .lst _ _ _ _ hk fun c hc=>?_
 obtain⟨e,h1,h2⟩:=List.mem_flatMap.1 hc
 obtain⟨q,_,rfl⟩:=List.mem_map.1 h1
 exact yE (.int _ _ _) (.int _ _ _) c h2
def spL(b:Bk)(d L:List Int):List Two:=[⟨clS b d L false 1,clS b d L true 1⟩,⟨clS b d L false 2,clS b d L true 2⟩,⟨clS b d L false 3,clS b d L true 3⟩]
set_option maxHeartbeats 8000000 in
theorem ret52(hi:Off is){b:Bk}(h:BOk b){d L:List Int}(hd:DOk b d)(hL:L.length≤64):RetP Tryd.prog is orc 52 [crU b d,.lst .ro 1 (zF L)] (.lst .ro 2 (wD (spL b d L))):=by
 refine zw body52 pure52 (hi 52 (by decide)) rfl rfl (yE (zBK b d 4) (zY 6 .ro (fun h=>by cases h) 1 L)) (.inl (dat_twos _ .ro (fun h=>by cases h) 6)) ?_
 have q0:=ret79 (orc:=orc) hi h hd hL false
 have q1:=ret79 (orc:=orc) hi h hd hL true
 unfold spL
 generalize clS b d L false 1=A1 at*
 generalize clS b d L false 2=A2 at*
 generalize clS b d L false 3=A3 at*
 generalize clS b d L true 1=C1 at*
 generalize clS b d L true 2=C2 at*
 generalize clS b d L true 3=C3 at*
 have q0:RetP Tryd.prog is orc 79 [crU b d,.lst .ro 1 (zF L),.int .i64 0] (.agg (tri A1 A2 A3)):=q0
 have q1:RetP Tryd.prog is orc 79 [crU b d,.lst .ro 1 (zF L),.int .i64 1] (.agg (tri C1 C2 C3)):=q1
 have ft:∀x y z,FlatU (.agg (tri x y z)):=fun x y z=>.agg _ fun c hc=>by
  simp only[List.mem_cons,List.not_mem_nil,or_false]at hc
  rcases hc with rfl|rfl|rfl<;>exact .int _ _
 refine kQ (yF rfl rfl (zB rfl (zC ?_)))
 refine zH [(1,.lst .ro 1 (zF L)),(2,U.box 0 0)] ([SB.box (Bk.cd b d)]) (.cons rfl (.cons rfl (.nil rfl))) rfl fun fr=>?_
 refine k_seq (wn [.read true,.plain,.read false,.read true,.plain,.read false,.pre,.pre,.plain,.plain] (by kernel_rfl) (by kernel_rfl) (by kernel_rfl) ?_)
 refine zg rfl (zS rfl rfl rfl sh72 rfl (zC rfl)) ?_
 refine zD (zA rfl (zC rfl)) (zAQ rfl q0 (ft _ _ _) (.lrefl _) ?_)
 refine zg rfl (zS rfl rfl rfl sh72 rfl (zC rfl)) ?_
 refine zD (zA rfl (zC rfl)) (zAQ rfl q1 (ft _ _ _) (.lrefl _) ?_)
 refine d_pre rfl ze98 ?_
 refine d_pre rfl ze98 ?_
 refine zD (zc rfl rfl sh98 rfl rfl rfl rfl rfl (zC rfl)) ?_
 refine zD (zc rfl rfl sh98 rfl rfl rfl rfl rfl (zC rfl)) ?_
 refine zBi ?_
 refine zH [(5,U.box 1 0),(6,U.box 2 0)] ([SB.box (Bk.cd b d),SB.box [.int .i64 A1,.int .i64 A2,.int .i64 A3],SB.box [.int .i64 C1,.int .i64 C2,.int .i64 C3]]) (.cons rfl (.cons rfl (.nil rfl))) rfl fun fr=>?_
 refine kQ (zB rfl (zC (k_seq (kQ (zA rfl (zC (zK ?_)))))))
 refine yZ (fun kk s2=>s2.st=[.box (Bk.cd b d),.box (tri A1 A2 A3),.box (tri C1 C2 C3)]∧((kk=3∧Holds s2 [(5,.box 1 0),(6,.box 2 0),(7,.lst .full 0 []),(15,.int .i64 0)])∨(kk=2∧Holds s2 [(5,.box 1 0),(6,.box 2 0),(7,.lst .own 2 [zCa A1 C1]),(15,.int .i64 1)])∨(kk=1∧Holds s2 [(5,.box 1 0),(6,.box 2 0),(7,.lst .own 2 [zCa A1 C1,zCa A2 C2]),(15,.int .i64 2)])∨(kk=0∧Holds s2 [(5,.box 1 0),(6,.box 2 0),(7,.lst .own 2 [zCa A1 C1,zCa A2 C2,zCa A3 C3]),(15,.int .i64 3)]))) (fun kk s2 hI=>?_) 3 _ ⟨rfl,.inl ⟨rfl,.c4 rfl rfl rfl rfl (.nil rfl)⟩⟩
 obtain⟨hst2,⟨hk,hs2⟩|⟨hk,hs2⟩|⟨hk,hs2⟩|⟨hk,hs2⟩⟩:=hI
 ·refine zH _ _ hs2 hst2 fun fr2=>?_
  refine kQ (zW rfl rfl rfl (zC (k_seq (k_cT rfl rfl ?_))))
  refine zL (k_seq (zK (kQ (zA rfl (zB rfl (zC (wn [.plain,.plain,.plain,.read true,.plain,.plain,.read true,.plain,.plain,.plain,.plain] (by kernel_rfl) (by kernel_rfl) (by kernel_rfl) ?_)))))))
  refine zD (zA rfl (zC rfl)) (zD (zA rfl (zC rfl)) (zD (yi rfl ty98 rfl rfl (by omega) (by omega) cl3 (zC rfl)) ?_))
  refine zg rfl (zG rfl rfl rfl sh3 rfl (zC rfl)) (zD (zA rfl (zC rfl)) (zD (yi rfl ty98 rfl rfl (by omega) (by omega) cl3 (zC rfl)) ?_))
  refine zg rfl (zG rfl rfl rfl sh3 rfl (zC rfl)) (zD (wG rfl ze48 pl48 rfl rfl (zC rfl)) ?_)
  refine zD (zAY (es:=[U.agg [.int .i64 A1,.int .i64 C1]]) rfl ty26 ze48 cl48 rfl rfl rfl rfl rfl rfl rfl rfl (zC rfl)) ?_
  refine zD (zAK rfl ap26_26 rfl rfl (by simp) (by simp) (by simp[yK,zt,oneU]) (by simp) (zC rfl)) ?_
  refine zD (zB rfl (zC rfl)) ?_
  refine zBi ?_
  refine k_region ?_
  refine yH rfl rfl rfl (by unfold I64;omega) (zA rfl (zC ?_))
  exact⟨2,by omega,rfl,.inr (.inl ⟨rfl,.c4 rfl rfl rfl rfl (.nil rfl)⟩)⟩
 ·refine zH _ _ hs2 hst2 fun fr2=>?_
  refine kQ (zW rfl rfl rfl (zC (k_seq (k_cT rfl rfl ?_))))
  refine zL (k_seq (zK (kQ (zA rfl (zB rfl (zC (wn [.plain,.plain,.plain,.read true,.plain,.plain,.read true,.plain,.plain,.plain,.plain] (by kernel_rfl) (by kernel_rfl) (by kernel_rfl) ?_)))))))
  refine zD (zA rfl (zC rfl)) (zD (zA rfl (zC rfl)) (zD (yi rfl ty98 rfl rfl (by omega) (by omega) cl3 (zC rfl)) ?_))
  refine zg rfl (zG rfl rfl rfl sh3 rfl (zC rfl)) (zD (zA rfl (zC rfl)) (zD (yi rfl ty98 rfl rfl (by omega) (by omega) cl3 (zC rfl)) ?_))
  refine zg rfl (zG rfl rfl rfl sh3 rfl (zC rfl)) (zD (wG rfl ze48 pl48 rfl rfl (zC rfl)) ?_)
  refine zD (zAY (es:=[U.agg [.int .i64 A2,.int .i64 C2]]) rfl ty26 ze48 cl48 rfl rfl rfl rfl rfl rfl rfl rfl (zC rfl)) ?_
  refine zD (zAj 7 rfl ap26_26 rfl rfl rfl (by simp) (by simp) (by simp[yK,zt,oneU]) (by simp) (zC rfl)) ?_
  refine zD (zB rfl (zC rfl)) ?_
  refine zBi ?_
  refine k_region ?_
  refine yH rfl rfl rfl (by unfold I64;omega) (zA rfl (zC ?_))
  exact⟨1,by omega,rfl,.inr (.inr (.inl ⟨rfl,.c4 rfl rfl rfl rfl (.nil rfl)⟩))⟩
 ·refine zH _ _ hs2 hst2 fun fr2=>?_
  refine kQ (zW rfl rfl rfl (zC (k_seq (k_cT rfl rfl ?_))))
  refine zL (k_seq (zK (kQ (zA rfl (zB rfl (zC (wn [.plain,.plain,.plain,.read true,.plain,.plain,.read true,.plain,.plain,.plain,.plain] (by kernel_rfl) (by kernel_rfl) (by kernel_rfl) ?_)))))))
  refine zD (zA rfl (zC rfl)) (zD (zA rfl (zC rfl)) (zD (yi rfl ty98 rfl rfl (by omega) (by omega) cl3 (zC rfl)) ?_))
  refine zg rfl (zG rfl rfl rfl sh3 rfl (zC rfl)) (zD (zA rfl (zC rfl)) (zD (yi rfl ty98 rfl rfl (by omega) (by omega) cl3 (zC rfl)) ?_))
  refine zg rfl (zG rfl rfl rfl sh3 rfl (zC rfl)) (zD (wG rfl ze48 pl48 rfl rfl (zC rfl)) ?_)
  refine zD (zAY (es:=[U.agg [.int .i64 A3,.int .i64 C3]]) rfl ty26 ze48 cl48 rfl rfl rfl rfl rfl rfl rfl rfl (zC rfl)) ?_
  refine zD (zAj 7 rfl ap26_26 rfl rfl rfl (by simp) (by simp) (by simp[yK,zt,oneU]) (by simp) (zC rfl)) ?_
  refine zD (zB rfl (zC rfl)) ?_
  refine zBi ?_
  refine k_region ?_
  refine yH rfl rfl rfl (by unfold I64;omega) (zA rfl (zC ?_))
  exact⟨0,by omega,rfl,.inr (.inr (.inr ⟨rfl,.c4 rfl rfl rfl rfl (.nil rfl)⟩))⟩
 ·refine zH _ _ hs2 hst2 fun fr2=>?_
  refine kQ (zW rfl rfl rfl (zC (k_seq (k_cF rfl rfl ?_))))
  refine yO (kQ (zA rfl (zA rfl (zd rfl ty26 rfl rfl ?_))))
  refine zA rfl (zd rfl ty26 rfl rfl ?_)
  refine o_slice0 rfl ty26 cl48 rfl (by simp) rfl rfl (Nat.le_refl _) ?_
  refine zB rfl (zC (zX ?_))
  refine⟨.inr rfl,_,.cons _ _ _ _ (.tmp 4) .nil,?_⟩
  exact .ro _ _ _
theorem ret14(hi:Off is){b:Bk}(h:BOk b){L:List Int}(hc:Cho b L):RetP Tryd.prog is orc 14 [b.u,.lst .ro 1 (zF L)] (.tup [.lst .ro 2 (wD (spL b [] L)),.int .i64 0]):=by
 have hn:=h.sn
 have hl:=hc.len
 have q51:=ret51 (orc:=orc) hi h L
 rw[cho_iff.2 hc]at q51
 have q51:RetP Tryd.prog is orc 51 [b.u,.lst .ro 1 (zF L)] (.tup [crU b [],.int .i64 0]):=q51
 have q52:=ret52 (orc:=orc) hi h (dok_nil b) (L:=L) (by omega)
 refine zw body14 pure14 (hi 14 (by decide)) rfl rfl (yE (wV b 4) (zY 6 .ro (fun h=>by cases h) 1 L)) (.inr ⟨_,rfl,yE (k:=7) (dat_twos _ .ro (fun h=>by cases h) 5) (.int _ _ _)⟩) ?_
 generalize spL b [] L=S at*
 refine kQ (yF rfl rfl (zB rfl (zB rfl (zC ?_))))
 refine zH [(1,.lst .ro 1 (zF L)),(2,U.box 0 0)] ([SB.box (Bk.cs b)]) (.cons rfl (.cons rfl (.nil rfl))) rfl fun fr=>?_
 refine kQ (zS rfl rfl rfl sh25 rfl (zA rfl (zM rfl (q51) (.lrefl _) (zA rfl (zN rfl rfl rfl (zN rfl rfl rfl (zu rfl ze72 ?_)))))))
 refine zc rfl rfl sh72 rfl rfl rfl rfl rfl ?_
 refine zB rfl (zC ?_)
 refine zH [(1,.lst .ro 1 (zF L)),(6,U.box 1 0),(7,.int .i64 0)] ([SB.box (Bk.cs b),SB.box [.int .i64 (Bk.bg b),.lst .ro 1 (zF (Bk.opens b)),.lst .ro 1 (zF (Bk.ends b)),.lst .ro 5 (scsU (Bk.scenes b)),.int .i64 (Bk.fee b),.lst .ro 1 (zF (Bk.loads b)),.int .i64 (Bk.cart b),.int .i64 (Bk.cost b),.int .i64 (Bk.feast b),.lst .ro 1 (zF (Bk.shares b)),.lst .ro 1 (zF [])]]) (.cons rfl (.cons rfl (.cons rfl (.nil rfl)))) rfl fun fr=>?_
 refine k_seq (kQ (zA rfl (wF rfl rfl rfl (zC (k_cF rfl rfl ?_)))))
 refine zL (kQ (zS rfl rfl rfl sh72 rfl (zA rfl (zM rfl (q52) (.lrefl _) (zB rfl (zB rfl (zC (zX ?_))))))))
 refine⟨.inr rfl,_,.cons _ _ _ _ (.tmp 4) (.cons _ _ _ _ (.tmp 5) .nil),?_⟩
 exact .refl _
theorem playD_len{b:Bk}{t:List Int}:∀(k:Nat) (D:List Int),zBp b t k=some D→D.length=k:=by
 intro k
 induction k with
 |zero=>intro D h;cases h;rfl
 |succ k ih=>
  intro D h
  unfold zBp at h
  cases hp:zBp b t k with
  |none=>rw[hp]at h;cases h
  |some d=>
   rw[hp]at h
   cases hc:cueO b d with
   |none=>simp only[hc]at h;cases h
   |some r=>
    simp only[hc]at h
    cases h
    rw[List.length_append,ih d hp];rfl
theorem play_spec{b:Bk}(h:BOk b){t m0:List Int}(ht:zEM b t=true)(h0:lgt b []=some m0):∀k,k≤b.scenes.length→∃D m,zBp b t k=some D∧D.length=k∧zBv b D=true∧lgt b D=some m∧wt b m≤wt b m0∧∀(i:Nat) (x:Int),D[i]? =some x→x= -1∨t[i]? =some x:=by
 unfold zEM at ht
 rw[Bool.and_eq_true,decide_eq_true_eq]at ht
 intro k
 induction k with
 |zero=>intro _;exact⟨[],m0,rfl,rfl,by unfold zBv;simp[dnF],h0,Int.le_refl _,fun i x hx=>by simp at hx⟩
 |succ k ih=>
  intro hk
  obtain⟨D,m,h1,h2,h3,h4,h5,h6⟩:=ih (by omega)
  obtain⟨r,c1,c2,c3,c4⟩:=zFX (done_ok h h3) h4
  obtain⟨q,hq⟩:∃q,b.scenes[k]? =some q:=⟨b.scenes[k]'(by omega),List.getElem?_eq_getElem (by omega)⟩
  obtain⟨x,hx⟩:∃x,t[k]? =some x:=⟨t[k]'(by omega),List.getElem?_eq_getElem (by omega)⟩
  obtain⟨q2,hq2,hx2⟩:=plF_at t 0 ht.2 k x hx
  rw[Nat.zero_add,hq]at hq2
  cases hq2
  obtain⟨y,hy⟩:∃y,y=if(k:Int)∈r then -1 else x:=⟨_,rfl⟩
  obtain⟨r2,n1,_,_,_,_,m2,n6,n7⟩:=cue_next (x:=y) h h3 h4 c2 c3 (by rw[h2];exact hq) (fun hr=>by rw[hy,if_pos (by rw[h2]at hr;exact hr)]) (fun hr=>by rw[hy,if_neg (by rw[h2]at hr;exact hr)];exact hx2)
  refine⟨D++[y],m2,?_,by simp[h2],n1,n6,by omega,fun i z hz=>?_⟩
  ·show(match zBp b t k with|none=>none|some d=>_)=_
   rw[h1]
   show(match cueO b D with|none=>none|some r=>some (D++[if(k:Int)∈r then -1 else(t[k]?).getD 0]))=_
   rw[c1,hx,hy];rfl
  ·by_cases hi:i<D.length
   ·rw[app_at hi]at hz;exact h6 i z hz
   ·have hl:=(List.getElem?_eq_some_iff.1 hz).1
    rw[List.length_append,List.length_singleton]at hl
    obtain rfl:i=k:=by omega
    have e:(D++[y])[i]? =some y:=by rw[←h2];simp
    rw[e]at hz
    cases hz
    by_cases hr:(i:Int)∈r
    ·rw[if_pos hr]at hy;exact .inl hy
    ·rw[if_neg hr]at hy;rw[hy];exact .inr hx
theorem play_end{b:Bk}(h:BOk b){t m0:List Int}(ht:zEM b t=true)(h0:lgt b []=some m0):∃D,zBp b t b.scenes.length=some D∧D.length=b.scenes.length∧Cho b (zBN D)∧wt b (zBN D)≤wt b m0∧(∀p,p<3→clS b t (zBN D) true (p+1)≤(b.ends[p]?).getD 0):=by
 obtain⟨D,m,h1,h2,h3,h4,h5,h6⟩:=play_spec h ht h0 b.scenes.length (Nat.le_refl _)
 unfold zEM at ht
 rw[Bool.and_eq_true,decide_eq_true_eq]at ht
 obtain⟨r,c1,c2,c3,c4⟩:=zFX (done_ok h h3) h4
 have hr:r=[]:=by
  cases r with
  |nil=>rfl
  |cons y r=>
   have e1:=c3 y List.mem_cons_self
   have e2:=(c4.rg y List.mem_cons_self).2
   omega
 rw[hr,List.append_nil]at c2
 obtain⟨⟨e1,e2⟩,_⟩:=zDH h4
 rw[c2]at e1 e2 h5
 refine⟨D,h1,h2,?_,h5,fit_goes e1 e2 ⟨ht.1,fun i x hx hne=>?_,fun i q x hq hx hl=>?_⟩⟩
 ·unfold zBN
  rw[h2]
  refine cho_mem fun i hi hp=>?_
  unfold zET at hp
  obtain⟨x,hx⟩:∃x,D[i]? =some x:=⟨D[i]'(by omega),List.getElem?_eq_getElem (by omega)⟩
  rw[hx]at hp
  have hp:x= -1:=of_decide_eq_true hp
  have hd:=done_at h3 hx
  unfold dnB at hd
  rw[Bool.or_eq_true,Bool.and_eq_true]at hd
  rcases hd with hd|hd
  ·simpa using hd.2
  ·cases hq:b.scenes[i]? with
   |none=>rw[hq]at hd;cases hd
   |some q=>
    rw[hq]at hd
    have:=zAr.1 hd
    have:=h.sc i q hq
    omega
 ·rcases h6 i x hx with h7|h7
  ·exact absurd h7 hne
  ·exact h7
 ·have:=(List.getElem?_eq_some_iff.1 hq).1
  omega
theorem play_no{b:Bk}{t:List Int}(h:BOk b)(h0:lgt b []=none):zBp b t b.scenes.length=none:=by
 have hn:=h.sn
 refine zGe (k:=1) ?_ _ (by omega)
 show(match cueO b []with|none=>none|some r=>_)=_
 rw[cue_none.2 h0]
def playR(b:Bk)(t:List Int):U:=match zBp b t b.scenes.length with|none=>.tup [.lst .full 0 [],.int .i64 4]|some D=>.tup [.lst .ro 1 (zF (zBN D)),.int .i64 0]
set_option maxHeartbeats 8000000 in
theorem ret27(hi:Off is){b:Bk}(h:BOk b){t:List Int}(ht:zEM b t=true):RetP Tryd.prog is orc 27 [b.u,.lst .ro 1 (zF t)] (playR b t):=by
 have hw:=fun(st:List SB) (j:Nat) (hj:st[j]? =some (.box [.lst .ro 1 (zF t)]))=>wpc60 (orc:=orc) hi h (g:=65) (j:=j) (z:=zEM b t) (st:=st) (fun E=>wpc65 hi h (ya hj))
 rw[ht]at hw
 have hn:=h.sn
 have ht2:=ht
 unfold zEM at ht2
 rw[Bool.and_eq_true,decide_eq_true_eq]at ht2
 have q67:=ret67 (orc:=orc) hi h ht2.1 (fun x hx=>by
  obtain⟨i,hi⟩:=List.getElem?_of_mem hx
  obtain⟨q,hq,hb⟩:=plF_at t 0 ht2.2 i x hi
  have:=h.sc _ q hq
  omega)
 unfold playR
 refine zw body27 pure27 (hi 27 (by decide)) rfl rfl (yE (wV b 4) (zY 6 .ro (fun h=>by cases h) 1 t)) (by
  cases zBp b t b.scenes.length with
  |none=>exact .inr ⟨_,rfl,yE (k:=7) (dat_fe 5) (.int _ _ _)⟩
  |some D=>exact .inr ⟨_,rfl,yE (k:=7) (zY 5 .ro (fun h=>by cases h) 1 _) (.int _ _ _)⟩) ?_
 refine kQ (yF rfl rfl (yF rfl rfl (zB rfl (zB rfl (zC ?_)))))
 refine zH [(2,U.box 0 0),(3,U.box 1 0)] ([SB.box (Bk.cs b),SB.box [.lst .ro 1 (zF t)]]) (.cons rfl (.cons rfl (.nil rfl))) rfl fun fr=>?_
 refine kQ (zS rfl rfl rfl sh25 rfl ?_)
 refine zEp rfl ?_
 refine zAY (es:=[U.fn 65 [] [U.box 1 0]]) rfl ty104 ze82 cl82 rfl rfl rfl rfl rfl rfl rfl rfl ?_
 refine zEO rfl (hw _ 1 rfl) (.lcons _ _ _ _ (.refl _) (.lcons _ _ _ _ (.ro _ _ _) (.lrefl _))) (fun u st1 hM=>?_)
 obtain⟨rfl,e,rfl⟩:=hM
 cases hp:zBp b t b.scenes.length with
 |none=>
  rw[hp]at q67
  have q67:RetP Tryd.prog is orc 67 [crN b,.lst .ro 1 (zF t)] (.tup [zcrU,.bool false]):=q67
  refine zA rfl (zN rfl rfl rfl (zN rfl rfl rfl (zu rfl ze70 ?_)))
  refine zc rfl (zk _ _) sh70 rfl rfl rfl rfl rfl ?_
  refine zB rfl (zC ?_)
  refine zH [(3,U.box 1 0),(6,U.box (List.length (SB.box (Bk.cs b)::SB.box [.lst .ro 1 (zF t)]::List.append [] e)) 0),(7,.int .i64 0)] (SB.box (Bk.cs b)::SB.box [.lst .ro 1 (zF t)]::List.set (List.append (List.append [] e) [SB.box (yn (V.cons (V.int .i64 (0:Int)) (V.cons V.nils (V.cons V.nils (V.cons V.nils (V.cons (V.int .i64 (0:Int)) (V.cons V.nils (V.cons (V.int .i64 (0:Int)) (V.cons (V.int .i64 (0:Int)) (V.cons (V.int .i64 (0:Int)) (V.cons V.nils V.nil)))))))))))]) (List.length (List.append [] e)) (SB.box (Bk.cs b))) (.cons rfl (.cons rfl (.cons rfl (.nil rfl)))) rfl fun fr=>?_
  refine k_seq (kQ (zA rfl (wF rfl rfl rfl (zC ?_))))
  refine zH [(3,U.box 1 0),(6,U.box (List.length (SB.box (Bk.cs b)::SB.box [.lst .ro 1 (zF t)]::List.append [] e)) 0),(7,.int .i64 0),(18,U.bool (decide ((0:Int)≠(0:Int))))] (SB.box (Bk.cs b)::SB.box [.lst .ro 1 (zF t)]::List.set (List.append (List.append [] e) [SB.box (yn (V.cons (V.int .i64 (0:Int)) (V.cons V.nils (V.cons V.nils (V.cons V.nils (V.cons (V.int .i64 (0:Int)) (V.cons V.nils (V.cons (V.int .i64 (0:Int)) (V.cons (V.int .i64 (0:Int)) (V.cons (V.int .i64 (0:Int)) (V.cons V.nils V.nil)))))))))))]) (List.length (List.append [] e)) (SB.box (Bk.cs b))) (.c4 rfl rfl rfl rfl (.nil rfl)) rfl fun fr=>?_
  refine k_cF rfl rfl ?_
  refine zL (kQ (zS rfl rfl (zBZ _ _ _) sh70 rfl ?_))
  refine wG rfl ze72 pl72 rfl rfl ?_
  refine zG rfl rfl rfl sh22 rfl (zM rfl (q67) (.lrefl _) (zA rfl (zN rfl rfl rfl (zN rfl rfl rfl (zu rfl ze72 ?_)))))
  refine zc rfl (zk _ _) sh72 rfl rfl rfl rfl rfl ?_
  refine zB rfl (zC ?_)
  refine zH [(8,U.box (List.length (SB.box (Bk.cs b)::SB.box [.lst .ro 1 (zF t)]::List.set (List.append (List.append [] e) [SB.box (yn (V.cons (V.int .i64 (0:Int)) (V.cons V.nils (V.cons V.nils (V.cons V.nils (V.cons (V.int .i64 (0:Int)) (V.cons V.nils (V.cons (V.int .i64 (0:Int)) (V.cons (V.int .i64 (0:Int)) (V.cons (V.int .i64 (0:Int)) (V.cons V.nils V.nil)))))))))))]) (List.length (List.append [] e)) (SB.box (Bk.cs b)))) 0),(9,.bool false)] (SB.box (Bk.cs b)::SB.box [.lst .ro 1 (zF t)]::List.set (List.append (List.set (List.append (List.append [] e) [SB.box (yn (V.cons (V.int .i64 (0:Int)) (V.cons V.nils (V.cons V.nils (V.cons V.nils (V.cons (V.int .i64 (0:Int)) (V.cons V.nils (V.cons (V.int .i64 (0:Int)) (V.cons (V.int .i64 (0:Int)) (V.cons (V.int .i64 (0:Int)) (V.cons V.nils V.nil)))))))))))]) (List.length (List.append [] e)) (SB.box (Bk.cs b))) [SB.box (yn (V.cons (V.int .i64 (0:Int)) (V.cons V.nils (V.cons V.nils (V.cons V.nils (V.cons (V.int .i64 (0:Int)) (V.cons V.nils (V.cons (V.int .i64 (0:Int)) (V.cons (V.int .i64 (0:Int)) (V.cons (V.int .i64 (0:Int)) (V.cons V.nils (V.cons V.nils V.nil))))))))))))]) (List.length (List.set (List.append (List.append [] e) [SB.box (yn (V.cons (V.int .i64 (0:Int)) (V.cons V.nils (V.cons V.nils (V.cons V.nils (V.cons (V.int .i64 (0:Int)) (V.cons V.nils (V.cons (V.int .i64 (0:Int)) (V.cons (V.int .i64 (0:Int)) (V.cons (V.int .i64 (0:Int)) (V.cons V.nils V.nil)))))))))))]) (List.length (List.append [] e)) (SB.box (Bk.cs b)))) (SB.box [.int .i64 0,.lst .full 0 [],.lst .full 0 [],.lst .full 0 [],.int .i64 0,.lst .full 0 [],.int .i64 0,.int .i64 0,.int .i64 0,.lst .full 0 [],.lst .full 0 []])) (.cons rfl (.cons rfl (.nil rfl))) rfl fun fr=>?_
  refine k_seq (kQ (zA rfl (yC rfl rfl (zC ?_))))
  refine zH [(8,U.box (List.length (SB.box (Bk.cs b)::SB.box [.lst .ro 1 (zF t)]::List.set (List.append (List.append [] e) [SB.box (yn (V.cons (V.int .i64 (0:Int)) (V.cons V.nils (V.cons V.nils (V.cons V.nils (V.cons (V.int .i64 (0:Int)) (V.cons V.nils (V.cons (V.int .i64 (0:Int)) (V.cons (V.int .i64 (0:Int)) (V.cons (V.int .i64 (0:Int)) (V.cons V.nils V.nil)))))))))))]) (List.length (List.append [] e)) (SB.box (Bk.cs b)))) 0),(28,U.bool !Bool.false)] (SB.box (Bk.cs b)::SB.box [.lst .ro 1 (zF t)]::List.set (List.append (List.set (List.append (List.append [] e) [SB.box (yn (V.cons (V.int .i64 (0:Int)) (V.cons V.nils (V.cons V.nils (V.cons V.nils (V.cons (V.int .i64 (0:Int)) (V.cons V.nils (V.cons (V.int .i64 (0:Int)) (V.cons (V.int .i64 (0:Int)) (V.cons (V.int .i64 (0:Int)) (V.cons V.nils V.nil)))))))))))]) (List.length (List.append [] e)) (SB.box (Bk.cs b))) [SB.box (yn (V.cons (V.int .i64 (0:Int)) (V.cons V.nils (V.cons V.nils (V.cons V.nils (V.cons (V.int .i64 (0:Int)) (V.cons V.nils (V.cons (V.int .i64 (0:Int)) (V.cons (V.int .i64 (0:Int)) (V.cons (V.int .i64 (0:Int)) (V.cons V.nils (V.cons V.nils V.nil))))))))))))]) (List.length (List.set (List.append (List.append [] e) [SB.box (yn (V.cons (V.int .i64 (0:Int)) (V.cons V.nils (V.cons V.nils (V.cons V.nils (V.cons (V.int .i64 (0:Int)) (V.cons V.nils (V.cons (V.int .i64 (0:Int)) (V.cons (V.int .i64 (0:Int)) (V.cons (V.int .i64 (0:Int)) (V.cons V.nils V.nil)))))))))))]) (List.length (List.append [] e)) (SB.box (Bk.cs b)))) (SB.box [.int .i64 0,.lst .full 0 [],.lst .full 0 [],.lst .full 0 [],.int .i64 0,.lst .full 0 [],.int .i64 0,.int .i64 0,.int .i64 0,.lst .full 0 [],.lst .full 0 []])) (.cons rfl (.cons rfl (.nil rfl))) rfl fun fr=>?_
  refine k_cT rfl rfl ?_
  refine kQ (zB rfl (zB rfl (zC (zX ?_))))
  refine⟨.inr rfl,_,.cons _ _ _ _ (.tmp 4) (.cons _ _ _ _ (.tmp 5) .nil),?_⟩
  exact .refl _
  done
 |some D=>
  rw[hp]at q67
  have q67:RetP Tryd.prog is orc 67 [crN b,.lst .ro 1 (zF t)] (.tup [crU b D,.bool true]):=q67
  have hl:=playD_len _ _ hp
  have q68:=ret68 (orc:=orc) hi b (d:=D) (by omega)
  refine zA rfl (zN rfl rfl rfl (zN rfl rfl rfl (zu rfl ze70 ?_)))
  refine zc rfl (zk _ _) sh70 rfl rfl rfl rfl rfl ?_
  refine zB rfl (zC ?_)
  refine zH [(3,U.box 1 0),(6,U.box (List.length (SB.box (Bk.cs b)::SB.box [.lst .ro 1 (zF t)]::List.append [] e)) 0),(7,.int .i64 0)] (SB.box (Bk.cs b)::SB.box [.lst .ro 1 (zF t)]::List.set (List.append (List.append [] e) [SB.box (yn (V.cons (V.int .i64 (0:Int)) (V.cons V.nils (V.cons V.nils (V.cons V.nils (V.cons (V.int .i64 (0:Int)) (V.cons V.nils (V.cons (V.int .i64 (0:Int)) (V.cons (V.int .i64 (0:Int)) (V.cons (V.int .i64 (0:Int)) (V.cons V.nils V.nil)))))))))))]) (List.length (List.append [] e)) (SB.box (Bk.cs b))) (.cons rfl (.cons rfl (.cons rfl (.nil rfl)))) rfl fun fr=>?_
  refine k_seq (kQ (zA rfl (wF rfl rfl rfl (zC ?_))))
  refine zH [(3,U.box 1 0),(6,U.box (List.length (SB.box (Bk.cs b)::SB.box [.lst .ro 1 (zF t)]::List.append [] e)) 0),(7,.int .i64 0),(18,U.bool (decide ((0:Int)≠(0:Int))))] (SB.box (Bk.cs b)::SB.box [.lst .ro 1 (zF t)]::List.set (List.append (List.append [] e) [SB.box (yn (V.cons (V.int .i64 (0:Int)) (V.cons V.nils (V.cons V.nils (V.cons V.nils (V.cons (V.int .i64 (0:Int)) (V.cons V.nils (V.cons (V.int .i64 (0:Int)) (V.cons (V.int .i64 (0:Int)) (V.cons (V.int .i64 (0:Int)) (V.cons V.nils V.nil)))))))))))]) (List.length (List.append [] e)) (SB.box (Bk.cs b))) (.c4 rfl rfl rfl rfl (.nil rfl)) rfl fun fr=>?_
  refine k_cF rfl rfl ?_
  refine zL (kQ (zS rfl rfl (zBZ _ _ _) sh70 rfl ?_))
  refine wG rfl ze72 pl72 rfl rfl ?_
  refine zG rfl rfl rfl sh22 rfl (zM rfl (q67) (.lrefl _) (zA rfl (zN rfl rfl rfl (zN rfl rfl rfl (zu rfl ze72 ?_)))))
  refine zc rfl (zk _ _) sh72 rfl rfl rfl rfl rfl ?_
  refine zB rfl (zC ?_)
  refine zH [(8,U.box (List.length (SB.box (Bk.cs b)::SB.box [.lst .ro 1 (zF t)]::List.set (List.append (List.append [] e) [SB.box (yn (V.cons (V.int .i64 (0:Int)) (V.cons V.nils (V.cons V.nils (V.cons V.nils (V.cons (V.int .i64 (0:Int)) (V.cons V.nils (V.cons (V.int .i64 (0:Int)) (V.cons (V.int .i64 (0:Int)) (V.cons (V.int .i64 (0:Int)) (V.cons V.nils V.nil)))))))))))]) (List.length (List.append [] e)) (SB.box (Bk.cs b)))) 0),(9,.bool true)] (SB.box (Bk.cs b)::SB.box [.lst .ro 1 (zF t)]::List.set (List.append (List.set (List.append (List.append [] e) [SB.box (yn (V.cons (V.int .i64 (0:Int)) (V.cons V.nils (V.cons V.nils (V.cons V.nils (V.cons (V.int .i64 (0:Int)) (V.cons V.nils (V.cons (V.int .i64 (0:Int)) (V.cons (V.int .i64 (0:Int)) (V.cons (V.int .i64 (0:Int)) (V.cons V.nils V.nil)))))))))))]) (List.length (List.append [] e)) (SB.box (Bk.cs b))) [SB.box (yn (V.cons (V.int .i64 (0:Int)) (V.cons V.nils (V.cons V.nils (V.cons V.nils (V.cons (V.int .i64 (0:Int)) (V.cons V.nils (V.cons (V.int .i64 (0:Int)) (V.cons (V.int .i64 (0:Int)) (V.cons (V.int .i64 (0:Int)) (V.cons V.nils (V.cons V.nils V.nil))))))))))))]) (List.length (List.set (List.append (List.append [] e) [SB.box (yn (V.cons (V.int .i64 (0:Int)) (V.cons V.nils (V.cons V.nils (V.cons V.nils (V.cons (V.int .i64 (0:Int)) (V.cons V.nils (V.cons (V.int .i64 (0:Int)) (V.cons (V.int .i64 (0:Int)) (V.cons (V.int .i64 (0:Int)) (V.cons V.nils V.nil)))))))))))]) (List.length (List.append [] e)) (SB.box (Bk.cs b)))) (SB.box (Bk.cd b D))) (.cons rfl (.cons rfl (.nil rfl))) rfl fun fr=>?_
  refine k_seq (kQ (zA rfl (yC rfl rfl (zC ?_))))
  refine zH [(8,U.box (List.length (SB.box (Bk.cs b)::SB.box [.lst .ro 1 (zF t)]::List.set (List.append (List.append [] e) [SB.box (yn (V.cons (V.int .i64 (0:Int)) (V.cons V.nils (V.cons V.nils (V.cons V.nils (V.cons (V.int .i64 (0:Int)) (V.cons V.nils (V.cons (V.int .i64 (0:Int)) (V.cons (V.int .i64 (0:Int)) (V.cons (V.int .i64 (0:Int)) (V.cons V.nils V.nil)))))))))))]) (List.length (List.append [] e)) (SB.box (Bk.cs b)))) 0),(28,U.bool !Bool.true)] (SB.box (Bk.cs b)::SB.box [.lst .ro 1 (zF t)]::List.set (List.append (List.set (List.append (List.append [] e) [SB.box (yn (V.cons (V.int .i64 (0:Int)) (V.cons V.nils (V.cons V.nils (V.cons V.nils (V.cons (V.int .i64 (0:Int)) (V.cons V.nils (V.cons (V.int .i64 (0:Int)) (V.cons (V.int .i64 (0:Int)) (V.cons (V.int .i64 (0:Int)) (V.cons V.nils V.nil)))))))))))]) (List.length (List.append [] e)) (SB.box (Bk.cs b))) [SB.box (yn (V.cons (V.int .i64 (0:Int)) (V.cons V.nils (V.cons V.nils (V.cons V.nils (V.cons (V.int .i64 (0:Int)) (V.cons V.nils (V.cons (V.int .i64 (0:Int)) (V.cons (V.int .i64 (0:Int)) (V.cons (V.int .i64 (0:Int)) (V.cons V.nils (V.cons V.nils V.nil))))))))))))]) (List.length (List.set (List.append (List.append [] e) [SB.box (yn (V.cons (V.int .i64 (0:Int)) (V.cons V.nils (V.cons V.nils (V.cons V.nils (V.cons (V.int .i64 (0:Int)) (V.cons V.nils (V.cons (V.int .i64 (0:Int)) (V.cons (V.int .i64 (0:Int)) (V.cons (V.int .i64 (0:Int)) (V.cons V.nils V.nil)))))))))))]) (List.length (List.append [] e)) (SB.box (Bk.cs b)))) (SB.box (Bk.cd b D))) (.cons rfl (.cons rfl (.nil rfl))) rfl fun fr=>?_
  refine k_cF rfl rfl ?_
  refine zL (kQ (zS rfl rfl (zBZ _ _ _) sh72 rfl ?_))
  refine zM rfl (q68) (.lrefl _) (zB rfl (zB rfl (zC (zX ?_))))
  refine⟨.inr rfl,_,.cons _ _ _ _ (.tmp 4) (.cons _ _ _ _ (.tmp 5) .nil),?_⟩
  exact .refl _
  done
end Go.Proofs.YtlknfhjfkcboiaaDoor.night
