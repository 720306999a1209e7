import Derived.Test.YtfbmlibilcjlgaaDoorVamT3
set_option linter.unusedVariables false
set_option linter.unusedSimpArgs false
set_option linter.constructorNameAsVariable false
namespace Go.Proofs.YtfbmlibilcjlgaaDoor.drumBounds
open Vam
section
variable {is:FuncId→Bool}{orc:Known}
noncomputable def b55:Code:=(Tryd.f55.body).getD .skip
theorem body55:bodyOf Tryd.prog 55=some (28,b55,[.tmp 4]):=by kernel_rfl
theorem pure55:pureFn Tryd.prog 55=true:=by kernel_rfl
def zDp(b:Bk)(x:Int):Int:=(b.beats[x.toNat]?).getD 0
theorem beat_at{b:Bk}(h:BOk b){x:Int}(hx:0≤x∧x≤3):b.beats[x.toNat]? =some (zDp b x)∧1≤zDp b x∧zDp b x≤1000:=by
 have h4:=h.n4
 obtain⟨q,hq⟩:∃q,b.beats[x.toNat]? =some q:=⟨b.beats[x.toNat],List.getElem?_eq_getElem (by omega)⟩
 have e:zDp b x=q:=by unfold zDp;rw[hq];rfl
 rw[e]
 exact⟨hq,h.bt q (List.mem_of_getElem? hq)⟩
theorem mul_b{s q:Int}(hs:1≤s∧s≤16)(hq:1≤q∧q≤1000):0≤s*q∧s*q≤16000:=by
 constructor
 ·exact Int.mul_nonneg (by omega) (by omega)
 ·have:=Int.mul_le_mul hs.2 hq.2 (by omega) (by omega)
  omega
def zAL(b:Bk)(L:List Int):Nat→Int
 |0=>0
 |k+1=>zAL b L k+b.size*zDp b ((L[k]?).getD 0)
theorem lastI_b{b:Bk}(h:BOk b){L:List Int}(hL:∀x∈L,0≤x∧x≤3)(k:Nat):0≤zAL b L k∧zAL b L k≤16000*k:=by
 induction k with
 |zero=>exact⟨Int.le_refl _,Int.le_refl _⟩
 |succ k ih=>
  have e:zAL b L (k+1)=zAL b L k+b.size*zDp b ((L[k]?).getD 0):=rfl
  have hx:0≤(L[k]?).getD 0∧(L[k]?).getD 0≤3:=by
   cases hq:L[k]? with
   |none=>exact⟨Int.le_refl _,by decide⟩
   |some q=>exact hL q (List.mem_of_getElem? hq)
  have:=mul_b h.sz (beat_at h hx).2
  rw[e]
  omega
set_option maxHeartbeats 4000000 in
theorem ret55(hi:Off is){b:Bk}(h:BOk b){L:List Int}(hL:∀x∈L,0≤x∧x≤3)(hn:L.length≤8):RetP Tryd.prog is orc 55 [b.u,.lst .ro 1 (zG L)] (.int .i64 (zAL b L L.length)):=by
 refine zk body55 pure55 (hi 55 (by decide)) rfl rfl (yM (yK b 4) (zr 6 .ro (fun h=>by cases h) 1 L)) (.inl (.int _ _ _)) ?_
 refine kQ (zc rfl rfl (zB rfl (zA ?_)))
 refine zH [(1,.lst .ro 1 (zG L)),(2,U.box 0 0)] ([SB.box (Bk.cs b)]) (.cons rfl (.cons rfl (.nil rfl))) rfl fun fr=>?_
 refine kQ (zB rfl (zA (k_seq (kQ (zC rfl (yF rfl ty94 rfl (List.length_map _) ?_))))))
 refine zC rfl (zA (zL ?_))
 refine yh (fun kk s2=>∃i:Nat,kk+i=L.length∧s2.st=[.box (Bk.cs b)]∧Holds s2 [(2,.box 0 0),(5,.int .i64 (zAL b L i)),(8,.lst .ro 1 (zG L)),(9,.int .i64 L.length),(10,.int .i64 i)]) (fun kk s2 hI=>?_) L.length _ ⟨0,rfl,rfl,.c4 rfl rfl rfl rfl (.cons rfl (.nil rfl))⟩
 obtain⟨i,hk,hst2,hs2⟩:=hI
 have hl:=lastI_b h hL i
 refine zH _ _ hs2 hst2 fun fr2=>?_
 by_cases hin:i<L.length
 ·obtain⟨x,hx⟩:∃x,L[i]? =some x:=⟨L[i],List.getElem?_eq_getElem hin⟩
  have hxr:=hL x (List.mem_of_getElem? hx)
  obtain⟨hq,hqb⟩:=beat_at h hxr
  have hm:=mul_b h.sz hqb
  have e:zAL b L (i+1)=zAL b L i+b.size*zDp b x:=by show _+b.size*zDp b ((L[i]?).getD 0)=_;rw[hx];rfl
  generalize zDp b x=q at hq hqb hm e
  refine kQ (zf rfl rfl rfl (zA (k_seq (k_cT rfl (decide_eq_true (by omega)) (zQ (k_seq (zL (kQ ?_))))))))
  refine yD (u:=.int .i64 (x)) rfl ty94 rfl rfl (Int.natCast_nonneg _) (by simp[hx]) cl3 ?_
  refine zT rfl rfl sh3 rfl ?_
  refine zB rfl (zA (yL [.plain,.plain,.plain,.read true,.plain,.plain,.read true,.plain,.plain,.read true,.plain,.plain,.plain] (by kernel_rfl) (by kernel_rfl) (by kernel_rfl) ?_))
  refine zD (zC rfl (zA rfl)) (zD (zE rfl rfl yB (zA rfl)) ?_)
  refine zD (zE rfl rfl yZ (zA rfl)) ?_
  refine zR rfl (zF rfl rfl rfl sh3 rfl (zA rfl)) (zD (zE rfl rfl yB (zA rfl)) ?_)
  refine zD (zE rfl rfl zCy (zA rfl)) ?_
  refine zR rfl (zF rfl rfl rfl sh22 rfl (zA rfl)) (zD (zC rfl (zA rfl)) (zD (yD (u:=.int .i64 (q)) rfl ty22 rfl rfl (by omega) (by simp[hq]) cl3 (zA rfl)) ?_))
  refine yI [(2,U.box 0 0),(8,.lst .ro 1 (zG L)),(9,.int .i64 ↑(List.length L)),(10,.int .i64 ↑i),(14,.int .i64 (zAL b L i)),(17,.int .i64 (Bk.size b)),(22,U.eref [.int .i64 q] 0)] [] ([SB.box (Bk.cs b)]) (.c4 rfl rfl rfl rfl (.cons rfl (.cons rfl (.cons rfl (.nil rfl))))) rfl rfl fun fr=>?_
  refine zR rfl (zT rfl rfl sh3 rfl (zA rfl)) ?_
  refine zD (zFR rfl rfl rfl (by unfold I64;omega) (zA rfl)) ?_
  refine zD (yO rfl rfl rfl (by unfold I64;omega) (zA rfl)) ?_
  refine zD (zB rfl (zA rfl)) ?_
  refine yw ?_
  refine zH [(2,U.box 0 0),(5,.int .i64 (zAL b L i+Bk.size b*q)),(8,.lst .ro 1 (zG L)),(9,.int .i64 ↑(List.length L)),(10,.int .i64 ↑i)] ([SB.box (Bk.cs b)]) (.c4 rfl rfl rfl rfl (.cons rfl (.nil rfl))) rfl fun fr=>?_
  refine k_region ?_
  refine yO rfl rfl rfl (by unfold I64;omega) (zC rfl (zA ?_))
  exact⟨kk - 1,by omega,i+1,by omega,rfl,.cons rfl (.cons (by show U.int .i64 _=_;rw[e]) (.cons rfl (.cons rfl (.cons rfl (.nil rfl)))))⟩
 ·have hie:i=L.length:=by omega
  subst hie
  refine kQ (zf rfl rfl rfl (zA (k_seq (k_cF rfl (decide_eq_false (by omega)) (yP (kQ (zC rfl (zB rfl ?_))))))))
  refine zA (zU ?_)
  refine⟨.inr rfl,_,.cons _ _ _ _ (.tmp 4) .nil,?_⟩
  exact .refl _
end
section
variable {is:FuncId→Bool}{orc:Known}
noncomputable def b111:Code:=(Tryd.f111.body).getD .skip
theorem body111:bodyOf Tryd.prog 111=some (4,b111,[.tmp 2]):=by kernel_rfl
theorem pure111:pureFn Tryd.prog 111=false:=by kernel_rfl
theorem sh94:shOf Tryd.prog 94=.one:=by kernel_rfl
noncomputable def b125:Code:=(Tryd.f125.body).getD .skip
theorem body125:bodyOf Tryd.prog 125=some (18,b125,[]):=by kernel_rfl
theorem pure125:pureFn Tryd.prog 125=false:=by kernel_rfl
theorem wpc111(L:List Int)(st:List SB):WpC Tryd.prog is orc 111 [.lst .ro 1 (zG L)] st fun u st'=>u=.fn 125 [] [.box st.length 0]∧st'=st++[.box [.lst .ro 1 (zG L)]]:=by
 refine zAW body111 pure111 rfl rfl ?_
 refine kQ (zc rfl rfl (zB rfl (zA ?_)))
 refine zH [(1,U.box (List.length st) 0)] (st++[SB.box [.lst .ro 1 (zG L)]]) (.cons rfl (.nil rfl)) rfl fun fr=>?_
 refine kQ ?_
 refine zBw rfl ?_
 refine zB rfl (zA (zU ?_))
 refine⟨.inr rfl,_,.cons _ _ _ _ (.tmp 2) .nil,?_⟩
 exact⟨_,.refl _,rfl,rfl⟩
structure Mks(L:List Int)(a pj:Nat)(lp:Lp)(Inv:Nat→List SB→Prop):Prop where
 own:∀i,NoOwn (lp.fr i)
 ps:∃p q,lp.ps=[p,q]∧p<1024∧q<1024
 l:∀i Y,Inv i Y→Y[a]? =some (.loop .ready lp)
 b:∀i Y,Inv i Y→Y[pj]? =some (.box [.lst .ro 1 (zG L)])
 run:∀(is:FuncId→Bool) (orc:Known),Off is→∀i x y Y,Inv i Y→L[i]? =some x→L[i+1]? =some y→WpY Tryd.prog is orc a lp [.int .i64 i,wB x y] Y fun u st'=>u=.bool true∧Inv (i+1) st'
set_option maxHeartbeats 8000000 in
theorem wpc125(hi:Off is){L:List Int}{a pj:Nat}{lp:Lp}{Inv:Nat→List SB→Prop}(h:Mks L a pj lp Inv)(hL:1≤L.length∧L.length≤4096)(Y:List SB)(hY:Inv 0 Y):WpC Tryd.prog is orc 125 [.yld a,.box pj 0] Y fun _ st'=>Inv (L.length - 1) st':=by
 refine zAW body125 pure125 rfl rfl ?_
 have hb0:=h.b 0 Y hY
 refine kQ (zF rfl rfl hb0 sh94 rfl ?_)
 refine yF rfl ty94 rfl (List.length_map _) ?_
 refine yn rfl rfl rfl (by unfold I64;omega) (zC rfl (zA (zL ?_)))
 refine yh (fun k st=>∃i:Nat,k+i+1=L.length∧Inv i st.st∧Holds st [(0,.yld a),(1,.box pj 0),(6,.int .i64 ((L.length:Int) - 1)),(7,.int .i64 i)]) (fun k st hI=>?_) (L.length - 1) _ ⟨0,by omega,hY,.c4 rfl rfl rfl rfl (.nil rfl)⟩
 obtain⟨i,hk,hInv,hs⟩:=hI
 generalize hst:st.st=Z at hInv
 have hbz:=h.b i Z hInv
 have hlz:=h.l i Z hInv
 refine zH _ _ hs hst fun fr=>?_
 by_cases hin:i+1<L.length
 ·obtain⟨x,hx⟩:∃x,L[i]? =some x:=⟨L[i],List.getElem?_eq_getElem (by omega)⟩
  obtain⟨y,hy⟩:∃y,L[i+1]? =some y:=⟨L[i+1],List.getElem?_eq_getElem hin⟩
  have q118:=ret118 (orc:=orc) hi hx hy (by omega)
  refine kQ (zf rfl rfl rfl (zA (k_seq (k_cT rfl (decide_eq_true (by omega)) (zQ (k_seq (zL (kQ ?_))))))))
  refine zC rfl (zB rfl (zA (kQ (zC rfl (zC rfl (zF rfl rfl hbz sh94 rfl ?_))))))
  refine zC rfl (zP rfl (q118) (.lrefl _) ?_)
  obtain⟨p1,p2,hp,hp1,hp2⟩:=h.ps
  refine o_yield (a:=a) rfl rfl hlz h.own (by rw[hp];simp[hp1,hp2]) (by rw[hp];rfl) (.lrefl _) (h.run is orc hi i x y Z hInv hx hy) fun u st1 hM=>?_
  obtain⟨rfl,hI1⟩:=hM
  refine yu rfl rfl (zA (k_cF rfl rfl ?_))
  refine zQ (k_region ?_)
  refine yO rfl rfl rfl (by unfold I64;omega) (zC rfl (zA ?_))
  exact⟨k - 1,by omega,i+1,by omega,hI1,.c4 rfl rfl rfl rfl (.nil rfl)⟩
 ·have hie:L.length - 1=i:=by omega
  rw[hie]
  refine kQ (zf rfl rfl rfl (zA (k_seq (k_cF rfl (decide_eq_false (by omega)) (yP ?_)))))
  exact⟨.inl rfl,[],.nil,_,.refl _,hInv⟩
end
end Go.Proofs.YtfbmlibilcjlgaaDoor.drumBounds
