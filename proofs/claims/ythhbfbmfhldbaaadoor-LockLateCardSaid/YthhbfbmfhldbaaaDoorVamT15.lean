import Derived.Test.YthhbfbmfhldbaaaDoorVamT14
set_option linter.unusedVariables false
set_option linter.unusedSimpArgs false
set_option linter.constructorNameAsVariable false
namespace Go.Proofs.YthhbfbmfhldbaaaDoor.locks
open Vam
section
variable {is:FuncId→Bool}{orc:Known}{l:Ln}
theorem sh42:shOf Tryd.prog 42=.one:=by kernel_rfl
noncomputable def b86:Code:=(Tryd.f86.body).getD .skip
theorem body86:bodyOf Tryd.prog 86=some (7,b86,[.tmp 2]):=by kernel_rfl
theorem pure86:pureFn Tryd.prog 86=false:=by kernel_rfl
theorem wpc86(hi:Off is)(h:VL l){R:List (List Int)}{st:List SB}{i j:Nat}(y0:st[i]? =some (.box l.cs))(y1:st[j]? =some (.box [.lst .ro 1 (zq R)])):WpC Tryd.prog is orc 86 [.box i 0,.box j 0] st fun u st'=>u=.bool (zDr l R)∧st'=st:=by
 have q87:=ret87 (orc:=orc) hi h R
 generalize zDr l R=z at*
 refine zFo body86 pure86 rfl rfl ?_
 refine kQ (zC rfl (zB (kQ (yL rfl rfl y0 sh24 rfl ?_))))
 refine wN rfl ze73 pl73 rfl rfl ?_
 refine zV rfl rfl y1 sh42 rfl ?_
 refine zN rfl (q87) (.lrefl _) (zC rfl (zB (zY ?_)))
 refine⟨.inr rfl,_,.cons _ _ _ _ (.tmp 2) .nil,?_⟩
 exact⟨_,.refl _,rfl,rfl⟩
structure Qw where
 g:Nat
 A:List U
 B:List U
 b:Bool
abbrev Qw.u(q:Qw):U:=.fn q.g q.A q.B
abbrev qwU(L:List Qw):List U:=L.map Qw.u
set_option maxHeartbeats 8000000 in
theorem wpc56(hi:Off is)(h:VL l)(st:List SB)(L:List Qw)(hr:∀(i:Nat) (q:Qw) (e:List SB),L[i]? =some q→(L.take i).all Qw.b=true→WpC Tryd.prog is orc q.g (q.A++([]++q.B)) (st++e) fun u st'=>u=.bool q.b∧st'=st++e)(hlen:L.length≤10):
  WpC Tryd.prog is orc 56 [l.u,.lst .ro 1 (qwU L)] st fun u st'=>u=.int .i64 (if L.all Qw.b=true then 0 else 71)∧∃e,st'=st++e:=by
 have q17:=ret17 (orc:=orc) hi l
 rw[zBG.2 h,if_pos rfl]at q17
 generalize hz:(if L.all Qw.b=true then(0:Int)else 71)=z
 refine zFo body56 pure56 rfl rfl ?_
 refine kQ (yB rfl rfl (zC rfl (zB ?_)))
 refine zH [(1,.lst .ro 1 (qwU L)),(2,U.box (List.length st) 0)] (st++[SB.box [.lst .ro 1 (zE (Ln.slots l)),.int .i64 (Ln.left l),.int .i64 (Ln.right l),.int .i64 (Ln.run l)]]) (.n2 rfl) rfl fun fr=>?_
 refine k_seq (kQ (yL rfl rfl (yj _ _) sh24 rfl ?_))
 refine zN rfl (q17) (.lrefl _) (zC rfl (zB (kQ (zA rfl (kr rfl (zB (k_cF rfl rfl ?_)))))))
 refine zK (k_seq (kQ (zA rfl (zk rfl zGq rfl (List.length_map _) ?_))))
 refine zA rfl (zB (zG ?_))
 refine yZ (fun kk s2=>∃i:Nat,kk+i=L.length∧(L.take i).all Qw.b=true∧s2.st=st++[.box l.cs]∧Holds s2 [(13,.lst .ro 1 (qwU L)),(14,.int .i64 L.length),(15,.int .i64 i)]) (fun kk s2 hI=>?_) L.length _ ⟨0,rfl,rfl,rfl,.cons rfl (.n2 rfl)⟩
 obtain⟨i,hk,hall,hst2,hs2⟩:=hI
 by_cases hin:i<L.length
 ·obtain⟨q,hq⟩:∃q,L[i]? =some q:=⟨L[i],List.getElem?_eq_getElem hin⟩
  have hqr:=hr i q [.box l.cs] hq hall
  have ht:(L.take (i+1)).all Qw.b=((L.take i).all Qw.b&&q.b):=take_all _ hq
  rw[hall,Bool.true_and]at ht
  obtain⟨g,A,B,b⟩:=q
  have eq:(qwU L)[i]? =some (.fn g A B):=by rw[List.getElem?_map,hq];rfl
  have hqr:WpC Tryd.prog is orc g (A++([]++B)) (st++[.box l.cs]) fun u st'=>u=.bool b∧st'=st++[.box l.cs]:=hqr
  generalize hY:st++[SB.box l.cs]=Y at*
  refine zH _ _ hs2 hst2 fun fr2=>?_
  refine kQ (kp rfl (zB (k_seq (k_cT rfl (kF (by omega)) (zK (k_seq (zG (kQ (zf (u:=.fn g A B) rfl zGq rfl rfl (Int.natCast_nonneg _) (by simpa using eq) cl34 ?_)))))))))
  refine kC sh34 rfl ?_
  refine zC rfl (zB (kQ (zA rfl ?_)))
  refine o_callV rfl rfl hqr (.lrefl _) (fun u st1 hM=>?_)
  obtain⟨rfl,rfl⟩:=hM
  refine yN rfl rfl (zB ?_)
  cases b with
  |true=>
   refine k_cF rfl rfl ?_
   refine zK (k_region ?_)
   refine kz rfl (by unfold I64;omega) (zA rfl (zB ?_))
   exact⟨kk - 1,by omega,i+1,by omega,ht,rfl,.cons rfl (.n2 rfl)⟩
  |false=>
   have hz2:z=71:=by
    rw[←hz,if_neg]
    intro ha
    have:=(List.all_eq_true.1 ha) _ (List.mem_of_getElem? hq)
    cases this
   subst hz2
   refine k_cT rfl rfl ?_
   refine kQ (zC rfl (zB (zY ?_)))
   refine⟨.inr rfl,_,.cons _ _ _ _ (.tmp 4) .nil,?_⟩
   exact⟨_,.refl _,rfl,[.box l.cs],hY.symm⟩
 ·have hz2:z=0:=by
   rw[←hz,if_pos]
   rw[List.take_of_length_le (by omega)]at hall
   exact hall
  subst hz2
  refine zH _ _ hs2 hst2 fun fr2=>?_
  refine kQ (kp rfl (zB (k_seq (k_cF rfl (kG (by omega)) (zp (kQ (zC rfl (zB (zY ?_)))))))))
  refine⟨.inr rfl,_,.cons _ _ _ _ (.tmp 4) .nil,?_⟩
  exact⟨_,.refl _,rfl,[.box l.cs],rfl⟩
end
section
variable {is:FuncId→Bool}{orc:Known}{l:Ln}
noncomputable def b36:Code:=(Tryd.f36.body).getD .skip
theorem body36:bodyOf Tryd.prog 36=some (28,b36,[.tmp 6,.tmp 7]):=by kernel_rfl
theorem pure36:pureFn Tryd.prog 36=true:=by kernel_rfl
theorem tones_rows(h:VL l){R:List (List Int)}(ht:zDr l R=true):R.length=l.slots.length∧∀r∈R,r.length≤8∧∀t∈r,0≤t∧t<8:=by
 unfold zDr at ht
 rw[Bool.and_eq_true,decide_eq_true_eq,List.all_eq_true]at ht
 refine⟨ht.1,fun r hr=>?_⟩
 obtain⟨hp,hb⟩:=(grw_iff (n:=8) r (-1)).1 (ht.2 r hr)
 have hb2:∀t∈r,0≤t∧t<((8:Nat):Int):=fun t h1=>by have:=hb t h1;omega
 have:=zCO (fun i=>decide ((i:Int)∈r)) 8
 rw[inc_memP hp hb2]at this
 exact⟨this,fun t h1=>by have:=hb t h1;omega⟩
set_option maxHeartbeats 16000000 in
theorem ret36(hi:Off is)(h:VL l){p:List Int}(hd:divB l p=true){R:List (List Int)}(ht:zDr l R=true):RetP Tryd.prog is orc 36 [l.u,.lst .ro 1 (zE p),.lst .ro 1 (zq R)] (.tup [.lst .ro 2 (prsU (whoL l p (i16 (rwN R)) (preL 18))),.int .i64 0]):=by
 refine yH body36 pure36 (hi 36 (by decide)) rfl rfl (dat_l3 (wa l 5) (yK 6 .ro (fun h=>by cases h) 1 p) (zEP R 5)) (.inr ⟨_,rfl,wE (dat_prs _ 5) (.int _ _ _)⟩) ?_
 have hn:=h.n
 obtain⟨hRl,hRr⟩:=tones_rows h ht
 have q57:=ret57 (orc:=orc) hi l p
 have q89:=ret89 (orc:=orc) hi (R:=R) (by omega) hRr
 have q88:=ret88 (orc:=orc) hi h hd (zAG (rwN R))
 have q58:=ret58 (orc:=orc) hi h p
 rw[hd]at q58
 obtain⟨B0,hB0⟩:∃B0:List SB,B0=[.box l.cs,.box [.lst .ro 1 (zq R)],.box (zCi l p)]:=⟨_,rfl⟩
 have hw:=wpc56 (orc:=orc) hi h B0 [⟨58,[zCh l p],[],true⟩,⟨86,[],[.box 0 0,.box 1 0],true⟩] (fun i q e hq _=>by
  match i,hq with
  |0,hq=>cases hq;exact wpc_ret q58
  |1,hq=>
   cases hq
   have:=wpc86 (orc:=orc) hi h (R:=R) (st:=B0++e) (i:=0) (j:=1) (by rw[hB0];rfl) (by rw[hB0];rfl)
   rw[ht]at this
   exact this) (by show 2≤10;omega)
 have hw:WpC Tryd.prog is orc 56 [l.u,.lst .ro 1 [.fn 58 [zCh l p] [],.fn 86 [] [.box 0 0,.box 1 0]]] B0 fun u st'=>u=.int .i64 0∧∃e,st'=B0++e:=hw
 rw[hB0]at hw
 have hSl:=zAG (rwN R)
 refine kQ (yB rfl rfl (yB rfl rfl (zC rfl (zC rfl (zB ?_)))))
 refine zH [(1,.lst .ro 1 (zE p)),(3,U.box 0 0),(5,U.box 1 0)] ([SB.box [.lst .ro 1 (zE (Ln.slots l)),.int .i64 (Ln.left l),.int .i64 (Ln.right l),.int .i64 (Ln.run l)],SB.box [.lst .ro 1 (zq R)]]) (.n3 rfl) rfl fun fr=>?_
 refine kQ (kB sh24 rfl (zA rfl (zN rfl (q57) (.lrefl _) (zo rfl ze75 ?_))))
 refine zt rfl rfl sh75 rfl rfl rfl rfl rfl ?_
 refine zB ?_
 refine zH [(3,U.box 0 0),(5,U.box 1 0),(8,U.box 2 0)] ([SB.box [.lst .ro 1 (zE (Ln.slots l)),.int .i64 (Ln.left l),.int .i64 (Ln.right l),.int .i64 (Ln.run l)],SB.box [.lst .ro 1 (zq R)],SB.box [.lst .ro 1 (zE (Ln.slots l)),.int .i64 (Ln.left l),.int .i64 (Ln.right l),.int .i64 (Ln.run l),.lst .ro 1 (zE p)]]) (.n3 rfl) rfl fun fr=>?_
 refine kQ ?_
 refine zCw rfl ?_
 refine zC rfl (zB ?_)
 show Wp _ _ _ _ _ _
 refine k_seq (kQ (kB sh24 rfl (kB sh75 rfl ?_)))
 refine zCw rfl ?_
 refine zA rfl (wv (es:=[U.fn 58 [U.agg [U.lst Kd.ro 1 (zE (Ln.slots l)),.int .i64 (Ln.left l),.int .i64 (Ln.right l),.int .i64 (Ln.run l),U.lst Kd.ro 1 (zE p)]] [],U.fn 86 [] [U.box 0 0,U.box 1 0]]) rfl zGq ze34 cl34 rfl rfl rfl rfl rfl rfl rfl rfl ?_)
 refine zGL rfl hw (.lcons _ _ _ _ (.refl _) (.lcons _ _ _ _ (.ro _ _ _) (.lrefl _))) (fun u st1 hM=>?_)
 refine zC rfl (zB ?_)
 obtain⟨rfl,e,rfl⟩:=hM
 refine zH [(5,.box 1 0),(8,.box 2 0),(10,.int .i64 0)] ([.box l.cs,.box [.lst .ro 1 (zq R)],.box (zCi l p)]++e) (.n3 rfl) rfl fun fr2=>?_
 have y1:([.box l.cs,.box [.lst .ro 1 (zq R)],.box (zCi l p)]++e)[1]? =some (.box [.lst .ro 1 (zq R)]):=rfl
 have y2:([.box l.cs,.box [.lst .ro 1 (zq R)],.box (zCi l p)]++e)[2]? =some (.box (zCi l p)):=rfl
 generalize [SB.box l.cs,.box [.lst .ro 1 (zq R)],.box (zCi l p)]++e=Y at*
 generalize whoL l p (i16 (rwN R)) (preL 18)=W at*
 generalize i16 (rwN R)=S at*
 refine kQ (zA rfl (kr rfl (zB (k_cF rfl rfl ?_))))
 refine zK (k_seq (yI [.read true,.read true,.read false,.plain,.plain,.plain] (by kernel_rfl) (by kernel_rfl) (by kernel_rfl) ?_))
 refine zP rfl (yL rfl rfl y2 sh75 rfl (zB rfl)) ?_
 refine zP rfl (zV rfl rfl y1 sh42 rfl (zB rfl)) ?_
 refine zDm rfl (q89) (zGd S) (.lrefl _) ?_
 refine zD (zN rfl (q88) (.lrefl _) (zB rfl)) ?_
 refine zD (zC rfl (zB rfl)) ?_
 refine zD (zC rfl (zB rfl)) ?_
 refine yu ?_
 refine zY ?_
 refine⟨.inr rfl,_,.cons _ _ _ _ (.tmp 6) (.cons _ _ _ _ (.tmp 7) .nil),?_⟩
 exact .refl _
 done
end
section
variable {is:FuncId→Bool}{orc:Known}{l:Ln}
noncomputable def b107:Code:=(Tryd.f107.body).getD .skip
theorem body107:bodyOf Tryd.prog 107=some (18,b107,[.tmp 4]):=by kernel_rfl
theorem pure107:pureFn Tryd.prog 107=true:=by kernel_rfl
theorem set_all:∀v:Nat,v<256→setN (memP (fun t=>bitI (v:Int) (t:Int)) 8)=v:=by decide+kernel
theorem hr_out(h:VL l){p:List Int}(w:Int)(b:Nat):∀i,i≤l.slots.length→∀k,l.slots.length≤k→hrN l p w b i k=0:=by
 have hn:=h.n
 intro i
 induction i with
 |zero=>intro _ k _;rfl
 |succ i ih=>
  intro hi k hk
  unfold hrN
  rw[if_neg,ih (by omega) k hk]
  rintro⟨_,e⟩
  unfold posN at e
  split at e
  ·have:=Nat.mod_lt (i+b) (show 0<l.slots.length by omega);omega
  ·omega
theorem sounds_heard(h:VL l){p:List Int}(hp:p.length=l.slots.length)(w:Int)(b:Nat):i16 (rwN (zFB l p w b))=i16 (hrN l p w b p.length):=by
 refine zAn fun k _=>?_
 unfold rwN zFB
 by_cases hk:k<l.slots.length
 ·have:(zCF (hrN l p w b p.length) l.slots.length)[k]? =some (rowN (hrN l p w b p.length) k):=by
   unfold zCF;rw[List.getElem?_map,List.getElem?_range hk];rfl
  rw[this]
  exact set_all _ (hr_lt h hp w b k)
 ·rw[List.getElem?_eq_none (by rw[zDw];omega),hr_out h w b _ (by omega) k (by omega)];rfl
theorem tones_heard(h:VL l)(p:List Int)(w:Int)(b:Nat):zDr l (zFB l p w b)=true:=by
 unfold zDr zFB
 rw[zDw,kF rfl,Bool.true_and,List.all_eq_true]
 intro r hr
 obtain⟨k,_,rfl⟩:=List.mem_map.1 hr
 refine(grw_iff (n:=8) _ (-1)).2 ⟨memP_pair _ _,fun x hx=>?_⟩
 have:=memP_rg hx
 omega
set_option maxHeartbeats 8000000 in
theorem ret107(hi:Off is)(a b:Int):RetP Tryd.prog is orc 107 [.int .i64 a,.lst .ro 1 (zE [b])] (.int .i64 (max a b)):=by
 refine yH body107 pure107 (hi 107 (by decide)) rfl rfl (wE (.int _ _ _) (yK 6 .ro (fun h=>by cases h) 1 [b])) (.inl (.int _ _ _)) ?_
 refine kQ (zC rfl (zB (k_seq (kQ (zA rfl (zk rfl ty22 rfl (List.length_map _) ?_))))))
 refine zA rfl (zB (zG ?_))
 refine yZ (fun kk s2=>∃i:Nat,kk+i=1∧s2.st=[]∧Holds s2 [(0,.int .i64 (if i=0 then a else max a b)),(7,.lst .ro 1 (zE [b])),(8,.int .i64 1),(9,.int .i64 i)]) (fun kk s2 hI=>?_) 1 _ ⟨0,rfl,rfl,.c4 rfl rfl rfl rfl (.nil rfl)⟩
 obtain⟨i,hk,hst2,hs2⟩:=hI
 have hi2:i=0∨i=1:=by omega
 rcases hi2 with rfl|rfl
 ·refine zH _ _ hs2 hst2 fun fr2=>?_
  refine kQ (kp rfl (zB (k_seq (k_cT rfl rfl ?_))))
  refine zK (k_seq (zG (kQ (zf rfl ty22 rfl rfl (by decide) rfl cl3 ?_))))
  refine kC sh3 rfl ?_
  refine zC rfl (zB (k_region (zA rfl (zA rfl (o_max rfl rfl rfl ?_)))))
  refine zC rfl (zB (k_region ?_))
  refine kz rfl (by unfold I64;omega) (zA rfl (zB ?_))
  exact⟨0,by omega,1,by omega,rfl,.c4 rfl rfl rfl rfl (.nil rfl)⟩
 ·refine zH _ _ hs2 hst2 fun fr2=>?_
  refine kQ (kp rfl (zB (k_seq (k_cF rfl rfl ?_))))
  refine zp (kQ (zA rfl (zC rfl (zB (zY ?_)))))
  refine⟨.inr rfl,_,.cons _ _ _ _ (.tmp 4) .nil,?_⟩
  exact .refl _
end
end Go.Proofs.YthhbfbmfhldbaaaDoor.locks
