import Derived.Test.YtfbmlibilcjlgaaDoorVamT3
set_option linter.unusedVariables false
set_option linter.unusedSimpArgs false
set_option linter.constructorNameAsVariable false
namespace Go.Proofs.YtfbmlibilcjlgaaDoor.drumEasier
open Vam
section
variable {is:FuncId→Bool}{orc:Known}
noncomputable def b55:Code:=(Tryd.f55.body).getD .skip
theorem body55:bodyOf Tryd.prog 55=some (28,b55,[.tmp 4]):=by kernel_rfl
theorem pure55:pureFn Tryd.prog 55=true:=by kernel_rfl
def zDd(b:Bk)(x:Int):Int:=(b.beats[x.toNat]?).getD 0
theorem beat_at{b:Bk}(h:BOk b){x:Int}(hx:0≤x∧x≤3):b.beats[x.toNat]? =some (zDd b x)∧1≤zDd b x∧zDd b x≤1000:=by
 have h4:=h.n4
 obtain⟨q,hq⟩:∃q,b.beats[x.toNat]? =some q:=⟨b.beats[x.toNat],List.getElem?_eq_getElem (by omega)⟩
 have e:zDd b x=q:=by unfold zDd;rw[hq];rfl
 rw[e]
 exact⟨hq,h.bt q (List.mem_of_getElem? hq)⟩
theorem mul_b{s q:Int}(hs:1≤s∧s≤16)(hq:1≤q∧q≤1000):0≤s*q∧s*q≤16000:=by
 constructor
 ·exact Int.mul_nonneg (by omega) (by omega)
 ·have:=Int.mul_le_mul hs.2 hq.2 (by omega) (by omega)
  omega
def zBI(b:Bk)(L:List Int):Nat→Int
 |0=>0
 |k+1=>zBI b L k+b.size*zDd b ((L[k]?).getD 0)
theorem lastI_b{b:Bk}(h:BOk b){L:List Int}(hL:∀x∈L,0≤x∧x≤3)(k:Nat):0≤zBI b L k∧zBI b L k≤16000*k:=by
 induction k with
 |zero=>exact⟨Int.le_refl _,Int.le_refl _⟩
 |succ k ih=>
  have e:zBI b L (k+1)=zBI b L k+b.size*zDd b ((L[k]?).getD 0):=rfl
  have hx:0≤(L[k]?).getD 0∧(L[k]?).getD 0≤3:=by
   cases hq:L[k]? with
   |none=>exact⟨Int.le_refl _,by decide⟩
   |some q=>exact hL q (List.mem_of_getElem? hq)
  have:=mul_b h.sz (beat_at h hx).2
  rw[e]
  omega
set_option maxHeartbeats 4000000 in
theorem ret55(hi:Off is){b:Bk}(h:BOk b){L:List Int}(hL:∀x∈L,0≤x∧x≤3)(hn:L.length≤8):RetP Tryd.prog is orc 55 [b.u,.lst .ro 1 (zE L)] (.int .i64 (zBI b L L.length)):=by
 refine yL body55 pure55 (hi 55 (by decide)) rfl rfl (yx (yi b 4) (yc 6 .ro (fun h=>by cases h) 1 L)) (.inl (.int _ _ _)) ?_
 refine kQ (yD rfl rfl (zB rfl (zC ?_)))
 refine zO [(1,.lst .ro 1 (zE L)),(2,U.box 0 0)] ([SB.box [.int .i64 (Bk.parts b),.int .i64 (Bk.size b),.lst .ro 1 (zE (Bk.beats b)),.int .i64 (Bk.start b),.int .i64 (Bk.fin b),.int .i64 (Bk.tlo b),.int .i64 (Bk.thi b),.int .i64 (Bk.slo b),.int .i64 (Bk.shi b),.int .i64 (Bk.notice b),.lst .ro 3 (plsU (Bk.players b))]]) (.cons rfl (.cons rfl (.nil rfl))) rfl fun fr=>?_
 refine kQ (zB rfl (zC (k_seq (kQ (zA rfl (wO rfl ty94 rfl (List.length_map _) ?_))))))
 refine zA rfl (zC (zT ?_))
 refine wZ (fun kk s2=>∃i:Nat,kk+i=L.length∧s2.st=[.box [.int .i64 b.parts,.int .i64 b.size,.lst .ro 1 (zE b.beats),.int .i64 b.start,.int .i64 b.fin,.int .i64 b.tlo,.int .i64 b.thi,.int .i64 b.slo,.int .i64 b.shi,.int .i64 b.notice,.lst .ro 3 (plsU b.players)]]∧Holds s2 [(2,.box 0 0),(5,.int .i64 (zBI b L i)),(8,.lst .ro 1 (zE L)),(9,.int .i64 L.length),(10,.int .i64 i)]) (fun kk s2 hI=>?_) L.length _ ⟨0,rfl,rfl,.c4 rfl rfl rfl rfl (.cons rfl (.nil rfl))⟩
 obtain⟨i,hk,hst2,hs2⟩:=hI
 have hl:=lastI_b h hL i
 refine zO _ _ hs2 hst2 fun fr2=>?_
 by_cases hin:i<L.length
 ·obtain⟨x,hx⟩:∃x,L[i]? =some x:=⟨L[i],List.getElem?_eq_getElem hin⟩
  have hxr:=hL x (List.mem_of_getElem? hx)
  obtain⟨hq,hqb⟩:=beat_at h hxr
  have hm:=mul_b h.sz hqb
  have e:zBI b L (i+1)=zBI b L i+b.size*zDd b x:=by show _+b.size*zDd b ((L[i]?).getD 0)=_;rw[hx];rfl
  generalize zDd b x=q at hq hqb hm e
  refine kQ (yK rfl rfl rfl (zC (k_seq (k_cT rfl (decide_eq_true (by omega)) (zW (k_seq (zT (kQ ?_))))))))
  refine zAD (u:=.int .i64 (x)) rfl ty94 rfl rfl (Int.natCast_nonneg _) (by simp[hx]) cl3 ?_
  refine yl rfl rfl sh3 rfl ?_
  refine zB rfl (zC (zAc [.plain,.plain,.plain,.read true,.plain,.plain,.read true,.plain,.plain,.read true,.plain,.plain,.plain] (by kernel_rfl) (by kernel_rfl) (by kernel_rfl) ?_))
  refine zF (zA rfl (zC rfl)) (zF (zD rfl rfl yS (zC rfl)) ?_)
  refine zF (zD rfl rfl zAH (zC rfl)) ?_
  refine yA rfl (zG rfl rfl rfl sh3 rfl (zC rfl)) (zF (zD rfl rfl yS (zC rfl)) ?_)
  refine zF (zD rfl rfl zCC (zC rfl)) ?_
  refine yA rfl (zG rfl rfl rfl sh22 rfl (zC rfl)) (zF (zA rfl (zC rfl)) (zF (zAD (u:=.int .i64 (q)) rfl ty22 rfl rfl (by omega) (by simp[hq]) cl3 (zC rfl)) ?_))
  refine zAi [(2,U.box 0 0),(8,.lst .ro 1 (zE L)),(9,.int .i64 ↑(List.length L)),(10,.int .i64 ↑i),(14,.int .i64 (zBI b L i)),(17,.int .i64 (Bk.size b)),(22,U.eref [.int .i64 q] 0)] [] ([SB.box [.int .i64 (Bk.parts b),.int .i64 (Bk.size b),.lst .ro 1 (zE (Bk.beats b)),.int .i64 (Bk.start b),.int .i64 (Bk.fin b),.int .i64 (Bk.tlo b),.int .i64 (Bk.thi b),.int .i64 (Bk.slo b),.int .i64 (Bk.shi b),.int .i64 (Bk.notice b),.lst .ro 3 (plsU (Bk.players b))]]) (.c4 rfl rfl rfl rfl (.cons rfl (.cons rfl (.cons rfl (.nil rfl))))) rfl rfl fun fr=>?_
  refine yA rfl (yl rfl rfl sh3 rfl (zC rfl)) ?_
  refine zF (o_mul rfl rfl rfl (by unfold I64;omega) (zC rfl)) ?_
  refine zF (wJ rfl rfl rfl (by unfold I64;omega) (zC rfl)) ?_
  refine zF (zB rfl (zC rfl)) ?_
  refine zCY ?_
  refine zO [(2,U.box 0 0),(5,.int .i64 (zBI b L i+Bk.size b*q)),(8,.lst .ro 1 (zE L)),(9,.int .i64 ↑(List.length L)),(10,.int .i64 ↑i)] ([SB.box [.int .i64 (Bk.parts b),.int .i64 (Bk.size b),.lst .ro 1 (zE (Bk.beats b)),.int .i64 (Bk.start b),.int .i64 (Bk.fin b),.int .i64 (Bk.tlo b),.int .i64 (Bk.thi b),.int .i64 (Bk.slo b),.int .i64 (Bk.shi b),.int .i64 (Bk.notice b),.lst .ro 3 (plsU (Bk.players b))]]) (.c4 rfl rfl rfl rfl (.cons rfl (.nil rfl))) rfl fun fr=>?_
  refine k_region ?_
  refine wJ rfl rfl rfl (by unfold I64;omega) (zA rfl (zC ?_))
  exact⟨kk - 1,by omega,i+1,by omega,rfl,.cons rfl (.cons (by show U.int .i64 _=_;rw[e]) (.cons rfl (.cons rfl (.cons rfl (.nil rfl)))))⟩
 ·have hie:i=L.length:=by omega
  subst hie
  refine kQ (yK rfl rfl rfl (zC (k_seq (k_cF rfl (decide_eq_false (by omega)) (wH (kQ (zA rfl (zB rfl ?_))))))))
  refine zC (zZ ?_)
  refine⟨.inr rfl,_,.cons _ _ _ _ (.tmp 4) .nil,?_⟩
  exact .refl _
end
section
variable {is:FuncId→Bool}{orc:Known}
end
section
theorem chol_ok{b:Bk}(h:BOk b)(bits:List Int):POk b (choL b bits b.parts.toNat):=by
 have hp:=h.pa
 refine⟨by rw[choL_len];omega,fun x hx=>?_,?_,fun i x y hx hy=>?_⟩
 ·unfold choL at hx
  obtain⟨k,_,rfl⟩:=List.mem_map.1 hx
  exact choI_b h bits k
 ·rw[choL_at (by omega)];rfl
 ·have h2:=(List.getElem?_eq_some_iff.1 hy).1
  rw[choL_len]at h2
  rw[choL_at (by omega)]at hx hy
  cases hx;cases hy
  exact choI_n h bits i
end
end Go.Proofs.YtfbmlibilcjlgaaDoor.drumEasier
