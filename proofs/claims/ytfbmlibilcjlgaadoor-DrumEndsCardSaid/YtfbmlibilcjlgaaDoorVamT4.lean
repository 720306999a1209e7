import Derived.Test.YtfbmlibilcjlgaaDoorVamT3
set_option linter.unusedVariables false
set_option linter.unusedSimpArgs false
set_option linter.constructorNameAsVariable false
namespace Go.Proofs.YtfbmlibilcjlgaaDoor.drumEnds
open Vam
section
variable {is:FuncId→Bool}{orc:Known}
noncomputable def b55:Code:=(Tryd.f55.body).getD .skip
theorem body55:bodyOf Tryd.prog 55=some (28,b55,[.tmp 4]):=by kernel_rfl
theorem pure55:pureFn Tryd.prog 55=true:=by kernel_rfl
def zEc(b:Bk)(x:Int):Int:=(b.beats[x.toNat]?).getD 0
theorem beat_at{b:Bk}(h:BOk b){x:Int}(hx:0≤x∧x≤3):b.beats[x.toNat]? =some (zEc b x)∧1≤zEc b x∧zEc b x≤1000:=by
 have h4:=h.n4
 obtain⟨q,hq⟩:∃q,b.beats[x.toNat]? =some q:=⟨b.beats[x.toNat],List.getElem?_eq_getElem (by omega)⟩
 have e:zEc b x=q:=by unfold zEc;rw[hq];rfl
 rw[e]
 exact⟨hq,h.bt q (List.mem_of_getElem? hq)⟩
theorem mul_b{s q:Int}(hs:1≤s∧s≤16)(hq:1≤q∧q≤1000):0≤s*q∧s*q≤16000:=by
 constructor
 ·exact Int.mul_nonneg (by omega) (by omega)
 ·have:=Int.mul_le_mul hs.2 hq.2 (by omega) (by omega)
  omega
def zCC(b:Bk)(L:List Int):Nat→Int
 |0=>0
 |k+1=>zCC b L k+b.size*zEc b ((L[k]?).getD 0)
theorem lastI_b{b:Bk}(h:BOk b){L:List Int}(hL:∀x∈L,0≤x∧x≤3)(k:Nat):0≤zCC b L k∧zCC b L k≤16000*k:=by
 induction k with
 |zero=>exact⟨Int.le_refl _,Int.le_refl _⟩
 |succ k ih=>
  have e:zCC b L (k+1)=zCC b L k+b.size*zEc b ((L[k]?).getD 0):=rfl
  have hx:0≤(L[k]?).getD 0∧(L[k]?).getD 0≤3:=by
   cases hq:L[k]? with
   |none=>exact⟨Int.le_refl _,by decide⟩
   |some q=>exact hL q (List.mem_of_getElem? hq)
  have:=mul_b h.sz (beat_at h hx).2
  rw[e]
  omega
set_option maxHeartbeats 4000000 in
theorem ret55(hi:Off is){b:Bk}(h:BOk b){L:List Int}(hL:∀x∈L,0≤x∧x≤3)(hn:L.length≤8):RetP Tryd.prog is orc 55 [b.u,.lst .ro 1 (zH L)] (.int .i64 (zCC b L L.length)):=by
 refine yK body55 pure55 (hi 55 (by decide)) rfl rfl (yz (wV b 4) (ya 6 .ro (fun h=>by cases h) 1 L)) (.inl (.int _ _ _)) ?_
 refine kQ (yI rfl rfl (zD rfl (zA ?_)))
 refine zO [(1,.lst .ro 1 (zH L)),(2,U.box 0 0)] ([SB.box [.int .i64 (Bk.parts b),.int .i64 (Bk.size b),.lst .ro 1 (zH (Bk.beats b)),.int .i64 (Bk.start b),.int .i64 (Bk.fin b),.int .i64 (Bk.tlo b),.int .i64 (Bk.thi b),.int .i64 (Bk.slo b),.int .i64 (Bk.shi b),.int .i64 (Bk.notice b),.lst .ro 3 (plsU (Bk.players b))]]) (.cons rfl (.cons rfl (.nil rfl))) rfl fun fr=>?_
 refine kQ (zD rfl (zA (k_seq (kQ (zC rfl (wI rfl ty94 rfl (List.length_map _) ?_))))))
 refine zC rfl (zA (zc ?_))
 refine wl (fun kk s2=>∃i:Nat,kk+i=L.length∧s2.st=[.box [.int .i64 b.parts,.int .i64 b.size,.lst .ro 1 (zH b.beats),.int .i64 b.start,.int .i64 b.fin,.int .i64 b.tlo,.int .i64 b.thi,.int .i64 b.slo,.int .i64 b.shi,.int .i64 b.notice,.lst .ro 3 (plsU b.players)]]∧Holds s2 [(2,.box 0 0),(5,.int .i64 (zCC b L i)),(8,.lst .ro 1 (zH L)),(9,.int .i64 L.length),(10,.int .i64 i)]) (fun kk s2 hI=>?_) L.length _ ⟨0,rfl,rfl,.c4 rfl rfl rfl rfl (.cons rfl (.nil rfl))⟩
 obtain⟨i,hk,hst2,hs2⟩:=hI
 have hl:=lastI_b h hL i
 refine zO _ _ hs2 hst2 fun fr2=>?_
 by_cases hin:i<L.length
 ·obtain⟨x,hx⟩:∃x,L[i]? =some x:=⟨L[i],List.getElem?_eq_getElem hin⟩
  have hxr:=hL x (List.mem_of_getElem? hx)
  obtain⟨hq,hqb⟩:=beat_at h hxr
  have hm:=mul_b h.sz hqb
  have e:zCC b L (i+1)=zCC b L i+b.size*zEc b x:=by show _+b.size*zEc b ((L[i]?).getD 0)=_;rw[hx];rfl
  generalize zEc b x=q at hq hqb hm e
  refine kQ (yR rfl rfl rfl (zA (k_seq (k_cT rfl (decide_eq_true (by omega)) (zk (k_seq (zc (kQ ?_))))))))
  refine wR (u:=.int .i64 (x)) rfl ty94 rfl rfl (Int.natCast_nonneg _) (by simp[hx]) cl3 ?_
  refine yE rfl rfl sh3 rfl ?_
  refine zD rfl (zA (zAc [.plain,.plain,.plain,.read true,.plain,.plain,.read true,.plain,.plain,.read true,.plain,.plain,.plain] (by kernel_rfl) (by kernel_rfl) (by kernel_rfl) ?_))
  refine zF (zC rfl (zA rfl)) (zF (zE rfl rfl yd (zA rfl)) ?_)
  refine zF (zE rfl rfl wg (zA rfl)) ?_
  refine zq rfl (zG rfl rfl rfl sh3 rfl (zA rfl)) (zF (zE rfl rfl yd (zA rfl)) ?_)
  refine zF (zE rfl rfl zBo (zA rfl)) ?_
  refine zq rfl (zG rfl rfl rfl sh22 rfl (zA rfl)) (zF (zC rfl (zA rfl)) (zF (wR (u:=.int .i64 (q)) rfl ty22 rfl rfl (by omega) (by simp[hq]) cl3 (zA rfl)) ?_))
  refine zAZ [(2,U.box 0 0),(8,.lst .ro 1 (zH L)),(9,.int .i64 ↑(List.length L)),(10,.int .i64 ↑i),(14,.int .i64 (zCC b L i)),(17,.int .i64 (Bk.size b)),(22,U.eref [.int .i64 q] 0)] [] ([SB.box [.int .i64 (Bk.parts b),.int .i64 (Bk.size b),.lst .ro 1 (zH (Bk.beats b)),.int .i64 (Bk.start b),.int .i64 (Bk.fin b),.int .i64 (Bk.tlo b),.int .i64 (Bk.thi b),.int .i64 (Bk.slo b),.int .i64 (Bk.shi b),.int .i64 (Bk.notice b),.lst .ro 3 (plsU (Bk.players b))]]) (.c4 rfl rfl rfl rfl (.cons rfl (.cons rfl (.cons rfl (.nil rfl))))) rfl rfl fun fr=>?_
  refine zq rfl (yE rfl rfl sh3 rfl (zA rfl)) ?_
  refine zF (o_mul rfl rfl rfl (by unfold I64;omega) (zA rfl)) ?_
  refine zF (we rfl rfl rfl (by unfold I64;omega) (zA rfl)) ?_
  refine zF (zD rfl (zA rfl)) ?_
  refine zCS ?_
  refine zO [(2,U.box 0 0),(5,.int .i64 (zCC b L i+Bk.size b*q)),(8,.lst .ro 1 (zH L)),(9,.int .i64 ↑(List.length L)),(10,.int .i64 ↑i)] ([SB.box [.int .i64 (Bk.parts b),.int .i64 (Bk.size b),.lst .ro 1 (zH (Bk.beats b)),.int .i64 (Bk.start b),.int .i64 (Bk.fin b),.int .i64 (Bk.tlo b),.int .i64 (Bk.thi b),.int .i64 (Bk.slo b),.int .i64 (Bk.shi b),.int .i64 (Bk.notice b),.lst .ro 3 (plsU (Bk.players b))]]) (.c4 rfl rfl rfl rfl (.cons rfl (.nil rfl))) rfl fun fr=>?_
  refine k_region ?_
  refine we rfl rfl rfl (by unfold I64;omega) (zC rfl (zA ?_))
  exact⟨kk - 1,by omega,i+1,by omega,rfl,.cons rfl (.cons (by show U.int .i64 _=_;rw[e]) (.cons rfl (.cons rfl (.cons rfl (.nil rfl)))))⟩
 ·have hie:i=L.length:=by omega
  subst hie
  refine kQ (yR rfl rfl rfl (zA (k_seq (k_cF rfl (decide_eq_false (by omega)) (wU (kQ (zC rfl (zD rfl ?_))))))))
  refine zA (zh ?_)
  refine⟨.inr rfl,_,.cons _ _ _ _ (.tmp 4) .nil,?_⟩
  exact .refl _
end
section
theorem ty28:tyOf Tryd.prog 28=.array 2 3:=by kernel_rfl
theorem chol_ok{b:Bk}(h:BOk b)(bits:List Int):POk b (choL b bits b.parts.toNat):=by
 have hp:=h.pa
 refine⟨by rw[choL_len];omega,fun x hx=>?_,?_,fun i x y hx hy=>?_⟩
 ·unfold choL at hx
  obtain⟨k,_,rfl⟩:=List.mem_map.1 hx
  exact choI_b h bits k
 ·rw[choL_at (by omega)];rfl
 ·have h2:=(List.getElem?_eq_some_iff.1 hy).1
  rw[choL_len]at h2
  rw[choL_at (by omega)]at hx hy
  cases hx;cases hy
  exact choI_n h bits i
end
end Go.Proofs.YtfbmlibilcjlgaaDoor.drumEnds
