import Derived.Test.YthhbfbmfhldbaaaDoorVamT13
set_option linter.unusedVariables false
set_option linter.unusedSimpArgs false
set_option linter.constructorNameAsVariable false
namespace Go.Proofs.YthhbfbmfhldbaaaDoor.locks
open Vam
section
variable {is:FuncId→Bool}{orc:Known}{l:Ln}
noncomputable def b106:Code:=(Tryd.f106.body).getD .skip
theorem body106:bodyOf Tryd.prog 106=some (1,b106,[.tmp 0]):=by kernel_rfl
theorem pure106:pureFn Tryd.prog 106=false:=by kernel_rfl
noncomputable def b114:Code:=(Tryd.f114.body).getD .skip
theorem body114:bodyOf Tryd.prog 114=some (20,b114,[]):=by kernel_rfl
theorem pure114:pureFn Tryd.prog 114=false:=by kernel_rfl
theorem Bd.mono{n m:Nat}{u:U}(h:Bd n u)(hm:n≤m):Bd m u:=fun φ S v hv=>(h φ S v hv).mono (fun a b e=>BMap.cut_of (by have:=(BMap.cut_some e).1;omega) (BMap.cut_some e).2) S.le_refl
theorem BdS.mono{n m:Nat}{x:SB}(h:BdS n x)(hm:n≤m):BdS m x:=by
 cases x with
 |box cs=>exact fun c hc=>Bd.mono (h c hc) hm
 |froz cs=>exact fun c hc=>Bd.mono (h c hc) hm
 |map es=>exact fun p hp=>⟨Bd.mono (h p hp).1 hm,Bd.mono (h p hp).2 hm⟩
 |loop q l=>exact fun i=>Bd.mono (h i) hm
 |dead=>trivial
theorem at_off{st X:List SB}{k:Nat}{x:SB}(h:X[k]? =some x):(st++X)[st.length+k]? =some x:=by
 rw[List.getElem?_append_right (by omega),Nat.add_sub_cancel_left];exact h
theorem set_off{st X:List SB}{k:Nat}{x:SB}:(st++X).set (st.length+k) x=st++X.set k x:=by
 rw[List.set_append_right _ _ (by omega),Nat.add_sub_cancel_left]
theorem zDX{P Q:List SB}{n:Nat}(h:P.length=n):(P++Q).take n=P:=by rw[←h,List.take_left]
abbrev latU(x:Nat×Nat):U:=.agg [.int .i64 (x.1:Int),.int .i64 (x.2:Int)]
def lat(k:Nat):Nat×Nat:=(k / 9,k % 9)
def preL(k:Nat):List (Nat×Nat):=(List.range k).map lat
theorem zFf(k:Nat):preL (k+1)=preL k++[lat k]:=by simp[preL,List.range_succ]
theorem zGk{w b:Nat}(hb:b<9):lat (9*w+b)=(w,b):=by
 unfold lat
 rw[show(9*w+b) / 9=w by omega,show(9*w+b) % 9=b by omega]
theorem pre_pre{a b:Nat}(h:a≤b):∃r,preL b=preL a++r:=by
 refine⟨(List.range' a (b - a)).map lat,?_⟩
 unfold preL
 rw[←List.map_append,List.range_eq_range',List.range_eq_range',show List.range' 0 b=List.range' 0 a++List.range' a (b - a) by
  have:=List.range'_append (s:=0) (m:=a) (n:=b - a) (step:=1)
  rw[show 0+1*a=a by omega,show a+(b - a)=b by omega]at this
  exact this.symm]
theorem ret106(hi:Off is):RetP Tryd.prog is orc 106 [] (.fn 114 [] []):=by
 refine zAh body106 pure106 rfl rfl (fun u hu=>by cases hu) (zGg _) ?_
 refine kQ (zC rfl (zB (kQ (zC rfl (zB (zc ?_))))))
 refine⟨.inr rfl,_,.cons _ _ _ _ (.tmp 0) .nil,?_⟩
 exact .refl _
end
section
variable {is:FuncId→Bool}{orc:Known}{l:Ln}
structure CnsE{α:Type}(enc:α→U)(N A:Nat)(lp:Lp)(I D:List α→List SB→Prop)(els:List α):Prop where
 len:∀l st,I l st→N≤st.length
 lenD:∀l st,D l st→N≤st.length
 tk:∀l st,I l st→I l (st.take N)
 tkD:∀l st,D l st→D l (st.take N)
 bd:∀l st,I l st→∀x∈st.take N,BdS N x
 bdD:∀l st,D l st→∀x∈st.take N,BdS N x
 bl:∀l st,I l st→st[A]? =some (.loop .ready lp)
 own:∀i,NoOwn (lp.fr i)
 ps:∃p,lp.ps=[p]∧Nat.blt p 1024=true
 run:∀(is:FuncId→Bool) (orc:Known),Off is→∀l q r st,els=l++q::r→I l st→WpY Tryd.prog is orc A lp [enc q] st fun u st'=>
  (u=.bool true∧I (l++[q]) st')∨(u=.bool false∧D (l++[q]) st')
def GenE{α:Type}(enc:α→U)(g:Nat)(B:List U)(els:List α):Prop:=
 ∀(is:FuncId→Bool) (orc:Known),Off is→∀{N A:Nat} {lp:Lp} {I D:List α→List SB→Prop},CnsE enc N A lp I D els→∀st,st.length=N→I [] st→
  WpC Tryd.prog is orc g (.yld A::B) st fun _ st'=>st'.length=N∧(I els st'∨∃l r,els=l++r∧D l st')
theorem bd_e{e:List SB}{n:Nat}{y:SB}(h:∀x∈e,BdS (n+1+e.length) x)(hy:∀m,BdS m y):∀x∈e++[y],BdS (n+1+(e++[y]).length) x:=fun x hx=>by
 rcases List.mem_append.1 hx with hx|hx
 ·exact BdS.mono (h x hx) (by simp)
 ·rcases List.mem_singleton.1 hx with rfl;exact hy _
theorem zFM{α:Type}{enc:α→U}{g n:Nat}{B:List U}{els:List α}{lp:Lp}{I D:List α→List SB→Prop}{ex:Ex}{s:St}{x:Operand}{ps:Array Tmp}{assign body:Code}{Q:Ex→St→Prop}(hi:Off is)
  (hg:GenE enc g B els) (hx:zO s x=.fn g [] B) (hc:CnsE enc (n+1) n lp (fun l st=>∃Z e,I l Z∧Z.length=n∧(∀x∈e,BdS (n+1+e.length) x)∧st=Z++(.loop .ready lp::e)) (fun l st=>∃Z e,D l Z∧Z.length=n∧(∀x∈e,BdS (n+1+e.length) x)∧st=Z++(.loop (.done ex) lp::e)) els)
  (hbd:∀l Z,I l Z→Z.length=n→∀x∈Z,BdS n x) (hbdD:∀l Z,D l Z→Z.length=n→∀x∈Z,BdS n x) (hlp:lpOf s ps.toList assign body=lp) (hl:s.st.length=n) (hst:I [] s.st)
  (k1:∀Z,I els Z→Z.length=n→endQ Q .ready ⟨s.fr,[],Z⟩) (k2:∀l r Z,els=l++r→D l Z→Z.length=n→endQ Q (.done ex) ⟨s.fr,[],Z⟩):Wp Tryd.prog is orc (.rangeFunc x ps assign body) s Q:=by
 refine k_range hx ?_
 show WpC Tryd.prog is orc g ([]++([.yld s.st.length]++B)) _ _
 rw[hlp,hl]
 refine(hg is orc hi hc (s.st++[.loop .ready lp]) (by simp[hl]) ⟨s.st,[],hst,hl,(fun x hx=>by cases hx),rfl⟩).mono fun _ st' hs=>?_
 have nil:∀{Z e:List SB} {y:SB},(Z++(y::e)).length=n+1→Z.length=n→e=[]:=fun {Z e y} h1 h2=>by
  rw[List.length_append,List.length_cons]at h1
  exact List.eq_nil_of_length_eq_zero (by omega)
 obtain⟨h0,⟨Z,e,hZ,hZl,_,rfl⟩|⟨l,r,h1,Z,e,hZ,hZl,_,rfl⟩⟩:=hs
 ·obtain rfl:=nil h0 hZl
  exact⟨.ready,by rw[←hZl];exact zDH _ _,by rw[zDX hZl];exact hbd _ _ hZ hZl,by rw[zDX hZl];exact k1 Z hZ hZl⟩
 ·obtain rfl:=nil h0 hZl
  exact⟨.done ex,by rw[←hZl];exact zDH _ _,by rw[zDX hZl];exact hbdD _ _ hZ hZl,by rw[zDX hZl];exact k2 l r Z h1 hZ hZl⟩
set_option maxHeartbeats 16000000 in
theorem gen114E:GenE latU 114 [] (preL 18):=by
 intro is orc hi N A lp I D hc st0 hl0 hI0
 have q115:=ret115 (orc:=orc) hi
 obtain⟨pp,hp1,hp2⟩:=hc.ps
 have fin:∀st3:List SB,N≤st3.length→(∀x∈st3.take N,BdS N x)→st0.length≤st3.length∧(∀x∈st3.take st0.length,BdS st0.length x)∧(st3.take st0.length).length=N∧st3.take st0.length=st3.take N:=fun st3 h1 h2=>by
  rw[hl0]
  exact⟨h1,h2,by rw[List.length_take];omega,rfl⟩
 refine wpc_cut body114 pure114 rfl rfl ?_
 refine kQ (zN rfl (q115) (.lrefl _) (zA rfl (zA rfl (zB (zI ?_)))))
 refine ym (fun kk s2=>∃(w:Nat) (st1:List SB),kk+w=2∧I (preL (9*w)) st1∧s2.st=st1∧Holds s2 [(0,.yld A),(5,.int .i64 2),(6,.int .i64 w)]) (fun kk s2 hJ=>?_) 2 _ ⟨0,st0,rfl,hI0,rfl,.cons rfl (.n2 rfl)⟩
 obtain⟨w,st1,hk,hI1,hst2,hs2⟩:=hJ
 refine zH _ _ hs2 hst2 fun fr2=>?_
 by_cases hw:w<2
 ·refine kQ ?_
  refine kp rfl (zB (k_seq (k_cT rfl (kF (by omega)) (zL (k_seq (zI (kQ (zA rfl (zC rfl (zB (kQ (zA rfl (zB (zI ?_))))))))))))))
  refine ym (fun mm s3=>∃(b:Nat) (st2:List SB),mm+b=9∧I (preL (9*w+b)) st2∧s3.st=st2∧Holds s3 [(0,.yld A),(2,.int .i64 w),(5,.int .i64 2),(6,.int .i64 w),(9,.int .i64 b)]) (fun mm s3 hJ=>?_) 9 _ ⟨0,st1,rfl,hI1,rfl,.c4 rfl rfl rfl rfl (.n1 rfl)⟩
  obtain⟨b,st2,hm,hI2,hst3,hs3⟩:=hJ
  refine zH _ _ hs3 hst3 fun fr3=>?_
  by_cases hb:b<9
  ·have hos:∃r,preL 18=preL (9*w+b+1)++r:=pre_pre (by omega)
   obtain⟨rr,hrr⟩:=hos
   have hr:=hc.run is orc hi (preL (9*w+b)) (w,b) rr st2 (by rw[hrr,zFf,zGk hb];simp) hI2
   have hos:∃r,preL 18=preL (9*w+b+1)++r:=⟨rr,hrr⟩
   rw[←zGk hb,←zFf]at hr
   rw[zGk hb]at hr
   have hbl:=hc.bl _ _ hI2
   refine kQ (kp rfl (zB (k_seq (k_cT rfl (kF (by omega)) (zL (k_seq (zI (kQ (zA rfl (zC rfl (zB (kQ (zA rfl (zA rfl (zA rfl ?_)))))))))))))))
   refine zAb rfl ze107 pl107 rfl rfl ?_
   refine o_yield (a:=A) rfl rfl hbl hc.own (by rw[hp1];simp[hp2]) (by rw[hp1];rfl) (.lrefl _) hr (fun u st3 hM=>?_)
   rcases hM with ⟨rfl,hI3⟩|⟨rfl,hD3⟩
   ·refine yU rfl rfl ?_
    refine zB (k_cF rfl rfl ?_)
    refine zL (k_region ?_)
    refine kz rfl (by unfold I64;omega) (zA rfl (zB ?_))
    exact⟨mm - 1,by omega,b+1,st3,by omega,hI3,rfl,.c4 rfl rfl rfl rfl (.n1 rfl)⟩
   ·refine yU rfl rfl ?_
    refine zB (k_cT rfl rfl ?_)
    refine zc ?_
    obtain⟨f1,f2,f4,f3⟩:=fin st3 (hc.lenD _ _ hD3) (hc.bdD _ _ hD3)
    obtain⟨r,hr2⟩:=hos
    exact⟨.inr rfl,_,.nil,_,.refl _,Bd.tup (fun c hc=>by cases hc),f1,f2,f4,.inr ⟨_,r,hr2,by show D _ (st3.take st0.length);rw[f3];exact hc.tkD _ _ hD3⟩⟩
  ·have hb9:b=9:=by omega
   subst hb9
   refine kQ (kp rfl (zB (k_seq (k_cF rfl rfl ?_))))
   refine yK (k_region ?_)
   refine kz rfl (by unfold I64;omega) (zA rfl (zB ?_))
   exact⟨kk - 1,by omega,w+1,st2,by omega,hI2,rfl,.cons rfl (.n2 rfl)⟩
 ·have hw2:w=2:=by omega
  subst hw2
  refine kQ (kp rfl (zB (k_seq (k_cF rfl rfl ?_))))
  refine yK ?_
  obtain⟨f1,f2,f4,f3⟩:=fin st1 (hc.len _ _ hI1) (hc.bd _ _ hI1)
  exact⟨.inl rfl,_,.nil,_,.refl _,Bd.tup (fun c hc=>by cases hc),f1,f2,f4,.inl (by show I _ (st1.take st0.length);rw[f3];exact hc.tk _ _ hI1)⟩
end
end Go.Proofs.YthhbfbmfhldbaaaDoor.locks
