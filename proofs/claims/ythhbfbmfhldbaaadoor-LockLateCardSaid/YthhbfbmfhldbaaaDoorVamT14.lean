import Derived.Test.YthhbfbmfhldbaaaDoorVamT13
set_option linter.unusedVariables false
set_option linter.unusedSimpArgs false
set_option linter.constructorNameAsVariable false
namespace Go.Proofs.YthhbfbmfhldbaaaDoor.locks
open Vam
variable {is:FuncId→Bool}{orc:Known}{l:Ln}
theorem by36:Program.bytesOf Tryd.prog 36=16:=by kernel_rfl
theorem cl36:Program.cellsOf Tryd.prog 36=2:=by kernel_rfl
theorem sh46:shOf Tryd.prog 46=.one:=by kernel_rfl
theorem ty46:tyOf Tryd.prog 46=.slice 36:=by kernel_rfl
theorem ze46:yU Tryd.prog 46=some ((.cons .nils .nil):V):=by kernel_rfl
theorem ap46_46:AppT Tryd.prog 46 46 36 2 16 ((.cons (.int .i64 0) (.cons (.int .i64 0) .nil)):V):=⟨ty46,⟨_,ty46⟩,cl36,by decide,by36,ze36,rfl⟩
noncomputable def b88:Code:=(Tryd.f88.body).getD .skip
theorem body88:bodyOf Tryd.prog 88=some (31,b88,[.tmp 4]):=by kernel_rfl
theorem pure88:pureFn Tryd.prog 88=true:=by kernel_rfl
section look
variable {Pr:Prt}{φ φ':BMap}{S S':SMap}{s s':St}{tm tm':TT}{H H':CH}{P:Program}
theorem zFy{E:Ev}{all:List Oper}{o:Oper}(hh:∀v H1,evOp P E tm H o.op=.ok v H1→H1=H)(h:zz P E all (o,.plain) tm H=.ok tm' H'):zz P E all (o,.read true) tm H=.ok tm' H':=by
 have h:Vam.cond (zBf all tm o.guard) (yy o.dst tm (evOp P E tm H o.op)) (.ok (setT tm o.dst Vam.undef) H)=.ok tm' H':=h
 show Vam.cond (zBf all tm o.guard) (yy o.dst tm (zAN P E true tm H o.op)) (.ok (setT tm o.dst Vam.undef) H)=.ok tm' H'
 cases hw:zBf all tm o.guard with
 |false=>rw[hw]at h;exact h
 |true=>
  rw[hw]at h
  have hh2:yy o.dst tm (evOp P E tm H o.op)=.ok tm' H':=h
  show yy o.dst tm (zAN P E true tm H o.op)=.ok tm' H'
  cases he:evOp P E tm H o.op with
  |no=>rw[he]at hh2;cases hh2
  |ok v H1=>
   rw[he]at hh2
   have e:=hh _ _ he
   subst e
   have:zAN P E true tm H1 o.op=.ok v H1:=by
    show R.rec (motive:=fun _=>R) .no (fun v _=>Vam.cond (Vam.cond true true (wp v)) (.ok v H1) .no) (evOp P E tm H1 o.op)=_
    rw[he];rfl
   rw[this];exact hh2
theorem zGk{all:List Oper}{dst:Option Nat}{xt t:TypeId}{x y:Operand}{ok:Bool}{pp:String}{ee:Array Edge}{g:Option (Nat×Bool)}{l:List (Oper×M0)}{s1:St}{Q:St→Prop}(h:WpO P is orc all [⟨dst,.lookup xt x y ok,t,pp,ee,g⟩] s fun s'=>s'=s1)(k:WpD P is orc all l s1 Q):WpD P is orc all ((⟨dst,.lookup xt x y ok,t,pp,ee,g⟩,.read true)::l) s Q:=by
 intro Pr φ S tm H m0 hm hp hs
 cases hm with
 |read _ _ _ m hm=>
  have e:pend (((⟨dst,.lookup xt x y ok,t,pp,ee,g⟩:Oper),Md.read true)::m)=pend m:=rfl
  rw[e]at hp hs
  obtain⟨s2,tm1,H1,φ1,S1,⟨n1,r1⟩,r2,r3,r4,r5,rfl⟩:=h _ φ S tm H hs
  exact zEQ ⟨n1,fun n hn'=>zFy (fun v H1 hh=>(yJ (show zh H (wc P H xt (zF tm x) (zF tm y) ok)=.ok v H1 from hh)).2) (by rw[←step_one];exact r1 n hn')⟩ r3 r4 (r5.weaken (fun b hb=>.inl hb) fun _ h=>h) (hm.keep fun i hi=>r5.get i (.inr hi)) ⟨hp.nodup,fun i hi=>by rw[r5.fz];exact hp.ok i hi,hp.out,hp.odd⟩ r2 k
end look
theorem at_eq{l:List SB}{i:Nat}{x y:SB}(h:l[i]? =some x):(l.set i y)[i]? =some y:=by rw[List.getElem?_set_self (List.getElem?_eq_some_iff.1 h).1]
theorem lat_inj{j k:Nat}(h:latU (lat j)=latU (lat k)):j=k:=by
 simp only[U.agg.injEq,List.cons.injEq,U.int.injEq,true_and,and_true]at h
 unfold lat at h
 have h1:((j / 9:Nat):Int)=(k / 9:Nat)∧((j % 9:Nat):Int)=(k % 9:Nat):=h
 omega
open Classical in
theorem esL_get(l:Ln)(p:List Int):∀k j,j<k→getK (esL l p (preL k)) (latU (lat j))=some (sndU l p (lat j)):=by
 intro k
 induction k with
 |zero=>intro j h;omega
 |succ k ih=>
  intro j h
  rw[zGB,esL_snoc,getK_setK]
  by_cases e:latU (lat j)=latU (lat k)
  ·rw[if_pos e,lat_inj e]
  ·rw[if_neg e]
   exact ih j (by
    have:j≠k:=fun h2=>e (by rw[h2])
    omega)
noncomputable def chi:List Int→List Int→Option Bool
 |[],_=>some true
 |_::_,[]=>some false
 |a::l,b::m=>Vam.cond (ieq a b) (chi l m) (some false)
theorem chi_eq:∀S T:List Int,S.length=T.length→chi S T=some (decide (S=T)):=by
 intro S
 induction S with
 |nil=>intro T h;cases T with
  |nil=>rfl
  |cons b T=>cases h
 |cons a S ih=>
  intro T h
  cases T with
  |nil=>cases h
  |cons b T=>
   unfold chi
   rw[zAF,ih T (by simpa using h)]
   by_cases e:a=b
   ·subst e
    rw[show(a==a)=true by simp]
    show some (decide (S=T))=_
    congr 1;exact decide_eq_decide.2 (by simp)
   ·rw[show(a==b)=false by simpa using e]
    show some false=_
    rw[kG (by simp[e])]
theorem eq16{S T:List Int}(h1:S.length=16)(h2:T.length=16):binV Tryd.prog 108 .eql (valK (.agg (zE S))) (valK (.agg (zE T)))=some (.bool (decide (S=T))):=by
 have hc:=chi_eq S T (by omega)
 obtain⟨a0,a1,a2,a3,a4,a5,a6,a7,a8,a9,a10,a11,a12,a13,a14,a15,rfl⟩:=zEF h1
 obtain⟨b0,b1,b2,b3,b4,b5,b6,b7,b8,b9,b10,b11,b12,b13,b14,b15,rfl⟩:=zEF h2
 have h:binV Tryd.prog 108 .eql (valK (.agg (zE [a0,a1,a2,a3,a4,a5,a6,a7,a8,a9,a10,a11,a12,a13,a14,a15]))) (valK (.agg (zE [b0,b1,b2,b3,b4,b5,b6,b7,b8,b9,b10,b11,b12,b13,b14,b15])))=opt none (fun x=>some (V.bool x)) (chi [a0,a1,a2,a3,a4,a5,a6,a7,a8,a9,a10,a11,a12,a13,a14,a15] [b0,b1,b2,b3,b4,b5,b6,b7,b8,b9,b10,b11,b12,b13,b14,b15]):=by kernel_rfl
 rw[h,hc];rfl
def whoL(l:Ln)(p:List Int)(S:List Int)(L:List (Nat×Nat)):List (Nat×Nat):=L.filter fun x=>decide (i16 (hrN l p x.1 x.2 p.length)=S)
abbrev prsU(L:List (Nat×Nat)):List U:=L.map latU
theorem dat_prs(L:List (Nat×Nat))(k:Nat):Dat (k+2) (.lst .ro 2 (prsU L)):=by
 refine .lst _ .ro _ _ (fun h=>by cases h) fun c hc=>?_
 obtain⟨e,he,hc⟩:=List.mem_flatMap.1 hc
 obtain⟨x,_,rfl⟩:=List.mem_map.1 he
 simp only[za,List.mem_cons,List.not_mem_nil,or_false]at hc
 rcases hc with rfl|rfl<;>exact .int _ _ _
def accW(L:List (Nat×Nat)):U:=match L with
 |[]=>.lst .full 0 []
 |L=>.lst .own 2 (prsU L)
theorem accW_snoc(x:Nat×Nat)(L:List (Nat×Nat)):accW (L++[x])=.lst .own 2 (prsU L++[latU x]):=by
 cases L with
 |nil=>rfl
 |cons y L=>show U.lst .own 2 (prsU ((y::L)++[x]))=_;simp[prsU]
theorem bd_accW(L:List (Nat×Nat))(n:Nat):Bd n (accW L):=by
 cases L with
 |nil=>exact Bd.lst fun c hc=>by cases hc
 |cons y L=>
  refine Bd.lst fun c hc=>?_
  obtain⟨e,he,hc⟩:=List.mem_flatMap.1 hc
  obtain⟨x,_,rfl⟩:=List.mem_map.1 he
  simp only[za,List.mem_cons,List.not_mem_nil,or_false]at hc
  rcases hc with rfl|rfl<;>exact Bd.int _ _ _
noncomputable def whV(l:Ln)(p:List Int)(S:List Int)(a:U):List SB:=[.box (zCi l p),.box (zE S),.box [a],.box (zCi l p),.map (esL l p (preL 18)),.box [.mp 4],.box [.mp 4]]
theorem zDU(l:Ln)(p:List Int)(n:Nat):BdS n (.box (zCi l p)):=fun c hc=>by
 simp only[List.mem_cons,List.not_mem_nil,or_false]at hc
 rcases hc with rfl|rfl|rfl|rfl|rfl
 ·exact(yK 6 .ro (fun h=>by cases h) 1 _).nb.bd _
 ·exact Bd.int _ _ _
 ·exact Bd.int _ _ _
 ·exact Bd.int _ _ _
 ·exact(yK 6 .ro (fun h=>by cases h) 1 _).nb.bd _
theorem bd_intsU(S:List Int)(n:Nat):BdS n (.box (zE S)):=fun c hc=>by
 obtain⟨z,_,rfl⟩:=List.mem_map.1 hc
 exact Bd.int _ _ _
theorem zv108:zeroV Tryd.prog 108=some (.agg (ofList [.int .i64 0,.int .i64 0,.int .i64 0,.int .i64 0,.int .i64 0,.int .i64 0,.int .i64 0,.int .i64 0,.int .i64 0,.int .i64 0,.int .i64 0,.int .i64 0,.int .i64 0,.int .i64 0,.int .i64 0,.int .i64 0])):=by kernel_rfl
theorem whV_bd(l:Ln)(p:List Int)(S:List Int)(L:List (Nat×Nat)):∀x∈whV l p S (accW L),BdS 7 x:=fun x hx=>by
 unfold whV at hx
 simp only[List.mem_cons,List.not_mem_nil,or_false]at hx
 rcases hx with rfl|rfl|rfl|rfl|rfl|rfl|rfl
 ·exact zDU l p _
 ·exact bd_intsU S _
 ·intro c hc;rcases List.mem_singleton.1 hc with rfl;exact bd_accW L _
 ·exact zDU l p _
 ·exact bd_es zCb _
 ·intro c hc;rcases List.mem_singleton.1 hc with rfl;exact Bd.mp (by omega)
 ·intro c hc;rcases List.mem_singleton.1 hc with rfl;exact Bd.mp (by omega)
theorem whoL_snoc(l:Ln)(p S:List Int)(L:List (Nat×Nat))(x:Nat×Nat):whoL l p S (L++[x])=whoL l p S L++if i16 (hrN l p x.1 x.2 p.length)=S then [x]else []:=by
 unfold whoL
 rw[List.filter_append]
 congr 1
 by_cases h:i16 (hrN l p x.1 x.2 p.length)=S
 ·rw[if_pos h];simp[h]
 ·rw[if_neg h];simp[h]
theorem pre_rg{L r:List (Nat×Nat)}{w b:Nat}(h:preL 18=L++(w,b)::r):w≤1∧b≤8:=by
 have hm:(w,b)∈preL 18:=by rw[h];simp
 obtain⟨k,hk,e⟩:=List.mem_map.1 hm
 have:=List.mem_range.1 hk
 unfold lat at e
 cases e
 omega
set_option maxHeartbeats 16000000 in
theorem ret88(hi:Off is)(h:VL l){p:List Int}(hd:divB l p=true){S:List Int}(hS:S.length=16):RetP Tryd.prog is orc 88 [zCh l p,.agg (zE S)] (.lst .ro 2 (prsU (whoL l p S (preL 18)))):=by
 refine yH body88 pure88 (hi 88 (by decide)) rfl rfl (wE (zBb l p 5) (dat_i16 _ 6)) (.inl (dat_prs _ 6)) ?_
 have q106:=ret106 (orc:=orc) hi
 have hb3:∀x∈([.box (zCi l p),.box (zE S),.box [.lst .full 0 []]]:List SB),BdS 3 x:=fun x hx=>by
  simp only[List.mem_cons,List.not_mem_nil,or_false]at hx
  rcases hx with rfl|rfl|rfl
  ·exact zDU l p _
  ·exact bd_intsU S _
  ·intro c hc;rcases List.mem_singleton.1 hc with rfl;exact bd_accW [] _
 have hw:=wpc105 (orc:=orc) hi h hd [.box (zCi l p),.box (zE S),.box [.lst .full 0 []]] hb3
 obtain⟨a0,a1,a2,a3,a4,a5,a6,a7,a8,a9,a10,a11,a12,a13,a14,a15,rfl⟩:=zEF hS
 refine kQ (yB rfl rfl (yB rfl rfl (zC rfl (zB ?_))))
 refine zH [(2,U.box 0 0),(3,U.box 1 0)] ([SB.box [.lst .ro 1 (zE (Ln.slots l)),.int .i64 (Ln.left l),.int .i64 (Ln.right l),.int .i64 (Ln.run l),.lst .ro 1 (zE p)],SB.box [.int .i64 a0,.int .i64 a1,.int .i64 a2,.int .i64 a3,.int .i64 a4,.int .i64 a5,.int .i64 a6,.int .i64 a7,.int .i64 a8,.int .i64 a9,.int .i64 a10,.int .i64 a11,.int .i64 a12,.int .i64 a13,.int .i64 a14,.int .i64 a15]]) (.n2 rfl) rfl fun fr=>?_
 refine kQ (zo rfl ze46 ?_)
 refine zB ?_
 refine zH [(2,U.box 0 0),(3,U.box 1 0),(5,U.box 2 0)] ([SB.box [.lst .ro 1 (zE (Ln.slots l)),.int .i64 (Ln.left l),.int .i64 (Ln.right l),.int .i64 (Ln.run l),.lst .ro 1 (zE p)],SB.box [.int .i64 a0,.int .i64 a1,.int .i64 a2,.int .i64 a3,.int .i64 a4,.int .i64 a5,.int .i64 a6,.int .i64 a7,.int .i64 a8,.int .i64 a9,.int .i64 a10,.int .i64 a11,.int .i64 a12,.int .i64 a13,.int .i64 a14,.int .i64 a15],SB.box [.lst .full 0 []]]) (.n3 rfl) rfl fun fr=>?_
 refine kQ (kB sh75 rfl ?_)
 refine zGL rfl hw (.lrefl _) (fun u st1 hM=>?_)
 obtain⟨rfl,rfl⟩:=hM
 refine zo rfl ze136 ?_
 refine yl rfl (yj _ _) zFJ rfl rfl ?_
 refine zB ?_
 refine zH [(2,.box 0 0),(3,.box 1 0),(5,.box 2 0),(6,.box 6 0)] (whV l p [a0,a1,a2,a3,a4,a5,a6,a7,a8,a9,a10,a11,a12,a13,a14,a15] (accW [])) (.n4 rfl) rfl fun fr2=>?_
 refine k_seq (kQ (zN rfl (q106) (.lrefl _) (zB (zG (zEI [(2,.box 0 0),(3,.box 1 0),(5,.box 2 0),(6,.box 6 0),(10,.fn 114 [] [])] (whV l p [a0,a1,a2,a3,a4,a5,a6,a7,a8,a9,a10,a11,a12,a13,a14,a15] (accW (whoL l p [a0,a1,a2,a3,a4,a5,a6,a7,a8,a9,a10,a11,a12,a13,a14,a15] []))) (.n5 rfl) rfl ?_)))))
 refine zFh (n:=7) (I:=fun L Z=>Z=whV l p [a0,a1,a2,a3,a4,a5,a6,a7,a8,a9,a10,a11,a12,a13,a14,a15] (accW (whoL l p [a0,a1,a2,a3,a4,a5,a6,a7,a8,a9,a10,a11,a12,a13,a14,a15] L))) (D:=fun _ _=>False) (ex:=.ret) hi gen114E rfl ?_ ?_ ?_ rfl rfl rfl ?_ ?_
 ·have hlpb:∀(i:Nat),Bd (7+1) (dg (zBj [(2,.box 0 0),(3,.box 1 0),(5,.box 2 0),(6,.box 6 0),(10,.fn 114 [] [])] i .junk)):=fun i=>by
   refine zCy (p:=fun u=>Bd (7+1) (dg u)) ?_ (Bd.junk _) i
   intro x hx
   simp only[List.mem_cons,List.not_mem_nil,or_false]at hx
   rcases hx with rfl|rfl|rfl|rfl|rfl
   ·exact Bd.box (by omega)
   ·exact Bd.box (by omega)
   ·exact Bd.box (by omega)
   ·exact Bd.box (by omega)
   ·exact(zGP _).bd _
  refine⟨?_,?_,?_,?_,?_,?_,?_,fun i=>zAe _,⟨11,rfl,rfl⟩,?_⟩
  ·rintro L st' ⟨Z,e,_,hZl,_,rfl⟩;simp[hZl];omega
  ·rintro L st' ⟨Z,e,hf,_⟩;cases hf
  ·rintro L st' ⟨Z,e,hZ,hZl,_,rfl⟩;exact⟨Z,[],hZ,hZl,(fun x hx=>by cases hx),zCm hZl⟩
  ·rintro L st' ⟨Z,e,hf,_⟩;cases hf
  ·rintro L st' ⟨Z,e,rfl,hZl,hbe,rfl⟩ x hx
   rw[zCm hZl]at hx
   rcases List.mem_append.1 hx with hx|hx
   ·exact BdS.mono (whV_bd _ _ _ _ x hx) (by omega)
   ·rcases List.mem_singleton.1 hx with rfl
    exact hlpb
  ·rintro L st' ⟨Z,e,hf,_⟩;cases hf
  ·rintro L st' ⟨Z,e,_,hZl,_,rfl⟩;exact at_n hZl
  ·generalize hlp:lpOf _ _ _ _=lp
   rintro is orc hi L ⟨w,b⟩ rr st' hrr ⟨Z,e,rfl,hZl,hbe,rfl⟩
   obtain⟨hw1,hb8⟩:=pre_rg hrr
   have hset:∀(lq:Lq) (E:List SB) (a c:U),(whV l p [a0,a1,a2,a3,a4,a5,a6,a7,a8,a9,a10,a11,a12,a13,a14,a15] a++(SB.loop lq lp::E)).set 2 (.box [c])=whV l p [a0,a1,a2,a3,a4,a5,a6,a7,a8,a9,a10,a11,a12,a13,a14,a15] c++(SB.loop lq lp::E):=fun lq E a c=>rfl
   have hsno:=whoL_snoc l p [a0,a1,a2,a3,a4,a5,a6,a7,a8,a9,a10,a11,a12,a13,a14,a15] L (w,b)
   have hg:getK (esL l p (preL 18)) (latU (w,b))=some (sndU l p (w,b)):=by
    have:=esL_get l p 18 (9*w+b) (by omega)
    rw[zGU (by omega)]at this;exact this
   have hsn:sndU l p (w,b)=.agg (zE (i16 (hrN l p w b p.length))):=rfl
   have hTl:=zAG (hrN l p w b p.length)
   rw[hsn]at hg
   have hsno:whoL l p [a0,a1,a2,a3,a4,a5,a6,a7,a8,a9,a10,a11,a12,a13,a14,a15] (L++[(w,b)])=whoL l p [a0,a1,a2,a3,a4,a5,a6,a7,a8,a9,a10,a11,a12,a13,a14,a15] L++if i16 (hrN l p w b p.length)=[a0,a1,a2,a3,a4,a5,a6,a7,a8,a9,a10,a11,a12,a13,a14,a15]then [(w,b)]else []:=hsno
   generalize i16 (hrN l p w b p.length)=T at*
   have en:=eq16 hTl hS
   obtain⟨M,hM⟩:∃M,M=whoL l p [a0,a1,a2,a3,a4,a5,a6,a7,a8,a9,a10,a11,a12,a13,a14,a15] L:=⟨_,rfl⟩
   have hMl:M.length≤18:=by
    have h1:=List.length_filter_le (fun x=>decide (i16 (hrN l p x.1 x.2 p.length)=[a0,a1,a2,a3,a4,a5,a6,a7,a8,a9,a10,a11,a12,a13,a14,a15])) L
    have h2:(preL 18).length=18:=by simp[preL]
    rw[hrr,List.length_append]at h2
    rw[hM];unfold whoL;omega
   rw[←hM]at hsno
   obtain⟨b0,b1,b2,b3,b4,b5,b6,b7,b8',b9,b10,b11,b12,b13,b14,b15,rfl⟩:=zEF hTl
   unfold WpY
   rw[←congrArg Lp.assign hlp,←congrArg Lp.body hlp,←congrArg Lp.ps hlp,←congrArg Lp.fr hlp]
   obtain⟨Y1,hY1⟩:∃Y,Y=whV l p [a0,a1,a2,a3,a4,a5,a6,a7,a8,a9,a10,a11,a12,a13,a14,a15] (accW M)++(SB.loop .ready lp::e):=⟨_,rfl⟩
   rw[←hM,←hY1]
   refine k_region (zo rfl ze107 ?_)
   refine zt rfl (yj _ _) zAw rfl rfl rfl rfl rfl ?_
   refine zB ?_
   have hYl:Y1.length=7+1+e.length:=by rw[hY1,List.length_append,List.length_cons];show 7+(e.length+1)=_;omega
   refine⟨rfl,?_,?_⟩
   ·show((Y1++[SB.box _]).set Y1.length (SB.box _))[7]? =_
    rw[yw,hY1];rfl
   ·obtain⟨Y2,hY2⟩:∃Y,Y=whV l p [a0,a1,a2,a3,a4,a5,a6,a7,a8,a9,a10,a11,a12,a13,a14,a15] (accW M)++(SB.loop .busy lp::(e++[SB.box [.int .i64 (w:Int),.int .i64 (b:Int)]])):=⟨_,rfl⟩
    have y1:Y2[1]? =some (.box (zE [a0,a1,a2,a3,a4,a5,a6,a7,a8,a9,a10,a11,a12,a13,a14,a15])):=by rw[hY2];rfl
    have y2:Y2[2]? =some (.box [accW M]):=by rw[hY2];rfl
    have y4:Y2[4]? =some (.map (esL l p (preL 18))):=by rw[hY2];rfl
    have y6:Y2[6]? =some (.box [.mp 4]):=by rw[hY2];rfl
    have y7:Y2[Y1.length]? =some (.box [.int .i64 (w:Int),.int .i64 (b:Int)]):=by
     rw[hY2,hYl,show whV l p [a0,a1,a2,a3,a4,a5,a6,a7,a8,a9,a10,a11,a12,a13,a14,a15] (accW M)++(SB.loop .busy lp::(e++[SB.box [.int .i64 (w:Int),.int .i64 (b:Int)]]))=(whV l p [a0,a1,a2,a3,a4,a5,a6,a7,a8,a9,a10,a11,a12,a13,a14,a15] (accW M)++(SB.loop .busy lp::e))++[SB.box [.int .i64 (w:Int),.int .i64 (b:Int)]] by simp]
     rw[List.getElem?_append_right (by rw[List.length_append,List.length_cons];show 7+(e.length+1)≤_;omega),List.length_append,List.length_cons,show 7+1+e.length - ((whV l p [a0,a1,a2,a3,a4,a5,a6,a7,a8,a9,a10,a11,a12,a13,a14,a15] (accW M)).length+(e.length+1))=0 by show 7+1+e.length - (7+(e.length+1))=0;omega];rfl
    refine zH [(2,.box 0 0),(3,.box 1 0),(5,.box 2 0),(6,.box 6 0),(7,.box Y1.length 0)] Y2 (.n5 rfl) (by
     show(((Y1++[SB.box _]).set Y1.length (SB.box _)).set 7 (.loop .busy lp))=_
     rw[yw,hY1,hY2,List.append_assoc,List.cons_append];rfl) fun fr=>?_
    by_cases c:[b0,b1,b2,b3,b4,b5,b6,b7,b8',b9,b10,b11,b12,b13,b14,b15]=[a0,a1,a2,a3,a4,a5,a6,a7,a8,a9,a10,a11,a12,a13,a14,a15]
    ·rw[kF c]at en
     rw[if_pos c]at hsno
     cases M with
     |nil=>
      refine zG (k_seq (yI [.read true,.read true,.read true,.read true,.plain] (by kernel_rfl) (by kernel_rfl) (by kernel_rfl) ?_))
      refine zP rfl (zV rfl rfl y6 zFJ rfl (zB rfl)) ?_
      refine zP rfl (yL rfl rfl y7 zAw rfl (zB rfl)) ?_
      refine zGk (zCJ (key:=latU (w,b)) (kt:=107) (el:=108) (r:=.agg (zE [b0,b1,b2,b3,b4,b5,b6,b7,b8',b9,b10,b11,b12,b13,b14,b15])) (ok:=false) rfl ty136 rfl y4 rfl (zBV zCb (w,b)) zv108 rfl (fun m hm=>by cases hm;exact⟨_,rfl⟩) (by rw[hg];rfl) (zB rfl)) ?_
      refine zP rfl (yL rfl rfl y1 sh108 rfl (zB rfl)) ?_
      refine zD (zCx rfl rfl rfl rfl rfl en (zB rfl)) ?_
      refine yu ?_
      refine k_cT rfl rfl ?_
      refine k_region (zV rfl rfl y2 sh46 rfl ?_)
      refine kw rfl zDQ (zV rfl rfl y7 sh3 rfl ?_)
      refine kw rfl wn (zV rfl rfl y7 sh3 rfl ?_)
      refine wN rfl ze36 pl36 rfl rfl ?_
      refine wv (es:=[U.agg [.int .i64 ↑w,.int .i64 ↑b]]) rfl ty46 ze36 cl36 rfl rfl rfl rfl rfl rfl rfl rfl ?_
      refine wg rfl ap46_46 rfl rfl (by simp) (by simp) (by simp[yC,za,oneU]) (by simp) ?_
      refine yl rfl y2 sh46 rfl rfl ?_
      refine zB ?_
      refine⟨?_,.inl ⟨rfl,whV l p [a0,a1,a2,a3,a4,a5,a6,a7,a8,a9,a10,a11,a12,a13,a14,a15] (accW (whoL l p [a0,a1,a2,a3,a4,a5,a6,a7,a8,a9,a10,a11,a12,a13,a14,a15] (L++[(w,b)]))),e++[SB.box [.int .i64 (w:Int),.int .i64 (b:Int)]],rfl,rfl,bd_e hbe (zBo _ _),?_⟩⟩
      ·show(Y2.set 2 _)[7]? =_
       rw[hY2];rfl
      ·show(Y2.set 2 _).set 7 (.loop .ready lp)=_
       rw[hY2,hsno];rfl
     |cons y M=>
      refine zG (k_seq (yI [.read true,.read true,.read true,.read true,.plain] (by kernel_rfl) (by kernel_rfl) (by kernel_rfl) ?_))
      refine zP rfl (zV rfl rfl y6 zFJ rfl (zB rfl)) ?_
      refine zP rfl (yL rfl rfl y7 zAw rfl (zB rfl)) ?_
      refine zGk (zCJ (key:=latU (w,b)) (kt:=107) (el:=108) (r:=.agg (zE [b0,b1,b2,b3,b4,b5,b6,b7,b8',b9,b10,b11,b12,b13,b14,b15])) (ok:=false) rfl ty136 rfl y4 rfl (zBV zCb (w,b)) zv108 rfl (fun m hm=>by cases hm;exact⟨_,rfl⟩) (by rw[hg];rfl) (zB rfl)) ?_
      refine zP rfl (yL rfl rfl y1 sh108 rfl (zB rfl)) ?_
      refine zD (zCx rfl rfl rfl rfl rfl en (zB rfl)) ?_
      refine yu ?_
      refine k_cT rfl rfl ?_
      refine k_region (zV rfl rfl y2 sh46 rfl ?_)
      refine kw rfl zDQ (zV rfl rfl y7 sh3 rfl ?_)
      refine kw rfl wn (zV rfl rfl y7 sh3 rfl ?_)
      refine wN rfl ze36 pl36 rfl rfl ?_
      refine wv (es:=[U.agg [.int .i64 ↑w,.int .i64 ↑b]]) rfl ty46 ze36 cl36 rfl rfl rfl rfl rfl rfl rfl rfl ?_
      refine o_appendC (2) 0 rfl ap46_46 rfl y2 rfl rfl (by simp) (by simp) (by simp[yC,za,oneU]) (by simp at hMl ⊢;omega) ?_
      refine yl rfl (at_eq y2) sh46 rfl rfl ?_
      refine zB ?_
      refine⟨?_,.inl ⟨rfl,whV l p [a0,a1,a2,a3,a4,a5,a6,a7,a8,a9,a10,a11,a12,a13,a14,a15] (accW (whoL l p [a0,a1,a2,a3,a4,a5,a6,a7,a8,a9,a10,a11,a12,a13,a14,a15] (L++[(w,b)]))),e++[SB.box [.int .i64 (w:Int),.int .i64 (b:Int)]],rfl,rfl,bd_e hbe (zBo _ _),?_⟩⟩
      ·show((Y2.set 2 _).set 2 _)[7]? =_
       rw[hY2];rfl
      ·show((Y2.set 2 _).set 2 _).set 7 (.loop .ready lp)=_
       rw[hY2,hsno,accW_snoc];rfl
    ·rw[kG c]at en
     rw[if_neg c,List.append_nil]at hsno
     refine zG (k_seq (yI [.read true,.read true,.read true,.read true,.plain] (by kernel_rfl) (by kernel_rfl) (by kernel_rfl) ?_))
     refine zP rfl (zV rfl rfl y6 zFJ rfl (zB rfl)) ?_
     refine zP rfl (yL rfl rfl y7 zAw rfl (zB rfl)) ?_
     refine zGk (zCJ (key:=latU (w,b)) (kt:=107) (el:=108) (r:=.agg (zE [b0,b1,b2,b3,b4,b5,b6,b7,b8',b9,b10,b11,b12,b13,b14,b15])) (ok:=false) rfl ty136 rfl y4 rfl (zBV zCb (w,b)) zv108 rfl (fun m hm=>by cases hm;exact⟨_,rfl⟩) (by rw[hg];rfl) (zB rfl)) ?_
     refine zP rfl (yL rfl rfl y1 sh108 rfl (zB rfl)) ?_
     refine zD (zCx rfl rfl rfl rfl rfl en (zB rfl)) ?_
     refine yu ?_
     refine k_cF rfl rfl ?_
     refine zK ?_
     refine⟨?_,.inl ⟨rfl,whV l p [a0,a1,a2,a3,a4,a5,a6,a7,a8,a9,a10,a11,a12,a13,a14,a15] (accW (whoL l p [a0,a1,a2,a3,a4,a5,a6,a7,a8,a9,a10,a11,a12,a13,a14,a15] (L++[(w,b)]))),e++[SB.box [.int .i64 (w:Int),.int .i64 (b:Int)]],rfl,rfl,bd_e hbe (zBo _ _),?_⟩⟩
     ·show Y2[7]? =_
      rw[hY2];rfl
     ·show Y2.set 7 (.loop .ready lp)=_
      rw[hY2,hsno];rfl
 ·rintro L Z rfl _;exact whV_bd _ _ _ _
 ·rintro L Z hf;cases hf
 ·rintro Z rfl _
  show Wp Tryd.prog is orc _ _ _
  generalize whoL l p [a0,a1,a2,a3,a4,a5,a6,a7,a8,a9,a10,a11,a12,a13,a14,a15] (preL 18)=W
  cases W with
  |nil=>
   refine kQ (kA sh46 rfl (kA sh46 rfl (zk rfl ty46 rfl rfl ?_)))
   refine kA sh46 rfl (zk rfl ty46 rfl rfl ?_)
   refine zAz rfl ty46 cl36 rfl (by simp) rfl rfl (Nat.le_refl _) ?_
   refine zC rfl (zB (zY ?_))
   refine⟨.inr rfl,_,.cons _ _ _ _ (.tmp 4) .nil,?_⟩
   exact .ro .full 2 []
  |cons y W=>
   have ht:List.take (y::W).length (prsU (y::W))=prsU (y::W):=List.take_of_length_le (by simp)
   refine kQ (kA sh46 rfl (kA sh46 rfl (zk rfl ty46 rfl (List.length_map _) ?_)))
   refine kA sh46 rfl (zk rfl ty46 rfl (List.length_map _) ?_)
   refine zAz rfl ty46 cl36 rfl (by simp) rfl rfl (by simp) ?_
   refine zC rfl (zB (zY ?_))
   refine⟨.inr rfl,_,.cons _ _ _ _ (.tmp 4) .nil,?_⟩
   show UW (.u (.lst .full 2 (List.take (y::W).length (prsU (y::W))))) _
   rw[ht]
   exact .ro _ _ _
 ·rintro L r Z _ hf;cases hf
end Go.Proofs.YthhbfbmfhldbaaaDoor.locks
