import Derived.Test.YtfbmlibilcjlgaaDoorVamT3
set_option linter.unusedVariables false
set_option linter.unusedSimpArgs false
set_option linter.constructorNameAsVariable false
namespace Go.Proofs.YtfbmlibilcjlgaaDoor.drumPaths
open Vam
section
variable {is:FuncId→Bool}{orc:Known}
noncomputable def b55:Code:=(Tryd.f55.body).getD .skip
theorem body55:bodyOf Tryd.prog 55=some (28,b55,[.tmp 4]):=by kernel_rfl
theorem pure55:pureFn Tryd.prog 55=true:=by kernel_rfl
noncomputable def b15:Code:=(Tryd.f15.body).getD .skip
theorem body15:bodyOf Tryd.prog 15=some (20,b15,[.tmp 4,.tmp 5]):=by kernel_rfl
theorem pure15:pureFn Tryd.prog 15=true:=by kernel_rfl
def zEK(b:Bk)(x:Int):Int:=(b.beats[x.toNat]?).getD 0
theorem beat_at{b:Bk}(h:BOk b){x:Int}(hx:0≤x∧x≤3):b.beats[x.toNat]? =some (zEK b x)∧1≤zEK b x∧zEK b x≤1000:=by
 have h4:=h.n4
 obtain⟨q,hq⟩:∃q,b.beats[x.toNat]? =some q:=⟨b.beats[x.toNat],List.getElem?_eq_getElem (by omega)⟩
 have e:zEK b x=q:=by unfold zEK;rw[hq];rfl
 rw[e]
 exact⟨hq,h.bt q (List.mem_of_getElem? hq)⟩
theorem mul_b{s q:Int}(hs:1≤s∧s≤16)(hq:1≤q∧q≤1000):0≤s*q∧s*q≤16000:=by
 constructor
 ·exact Int.mul_nonneg (by omega) (by omega)
 ·have:=Int.mul_le_mul hs.2 hq.2 (by omega) (by omega)
  omega
def zBO(b:Bk)(L:List Int):Nat→Int
 |0=>0
 |k+1=>zBO b L k+b.size*zEK b ((L[k]?).getD 0)
theorem lastI_b{b:Bk}(h:BOk b){L:List Int}(hL:∀x∈L,0≤x∧x≤3)(k:Nat):0≤zBO b L k∧zBO b L k≤16000*k:=by
 induction k with
 |zero=>exact⟨Int.le_refl _,Int.le_refl _⟩
 |succ k ih=>
  have e:zBO b L (k+1)=zBO b L k+b.size*zEK b ((L[k]?).getD 0):=rfl
  have hx:0≤(L[k]?).getD 0∧(L[k]?).getD 0≤3:=by
   cases hq:L[k]? with
   |none=>exact⟨Int.le_refl _,by decide⟩
   |some q=>exact hL q (List.mem_of_getElem? hq)
  have:=mul_b h.sz (beat_at h hx).2
  rw[e]
  omega
set_option maxHeartbeats 4000000 in
theorem ret55(hi:Off is){b:Bk}(h:BOk b){L:List Int}(hL:∀x∈L,0≤x∧x≤3)(hn:L.length≤8):RetP Tryd.prog is orc 55 [b.u,.lst .ro 1 (zE L)] (.int .i64 (zBO b L L.length)):=by
 refine yC body55 pure55 (hi 55 (by decide)) rfl rfl (yL (yZ b 4) (zi 6 .ro (fun h=>by cases h) 1 L)) (.inl (.int _ _ _)) ?_
 refine kQ (ze rfl rfl (zC rfl (zA ?_)))
 refine zL [(1,.lst .ro 1 (zE L)),(2,U.box 0 0)] ([SB.box [.int .i64 (Bk.parts b),.int .i64 (Bk.size b),.lst .ro 1 (zE (Bk.beats b)),.int .i64 (Bk.start b),.int .i64 (Bk.fin b),.int .i64 (Bk.tlo b),.int .i64 (Bk.thi b),.int .i64 (Bk.slo b),.int .i64 (Bk.shi b),.int .i64 (Bk.notice b),.lst .ro 3 (plsU (Bk.players b))]]) (.cons rfl (.cons rfl (.nil rfl))) rfl fun fr=>?_
 refine kQ (zC rfl (zA (k_seq (kQ (zB rfl (yR rfl ty94 rfl (List.length_map _) ?_))))))
 refine zB rfl (zA (zR ?_))
 refine wE (fun kk s2=>∃i:Nat,kk+i=L.length∧s2.st=[.box [.int .i64 b.parts,.int .i64 b.size,.lst .ro 1 (zE b.beats),.int .i64 b.start,.int .i64 b.fin,.int .i64 b.tlo,.int .i64 b.thi,.int .i64 b.slo,.int .i64 b.shi,.int .i64 b.notice,.lst .ro 3 (plsU b.players)]]∧Holds s2 [(2,.box 0 0),(5,.int .i64 (zBO b L i)),(8,.lst .ro 1 (zE L)),(9,.int .i64 L.length),(10,.int .i64 i)]) (fun kk s2 hI=>?_) L.length _ ⟨0,rfl,rfl,.c4 rfl rfl rfl rfl (.cons rfl (.nil rfl))⟩
 obtain⟨i,hk,hst2,hs2⟩:=hI
 have hl:=lastI_b h hL i
 refine zL _ _ hs2 hst2 fun fr2=>?_
 by_cases hin:i<L.length
 ·obtain⟨x,hx⟩:∃x,L[i]? =some x:=⟨L[i],List.getElem?_eq_getElem hin⟩
  have hxr:=hL x (List.mem_of_getElem? hx)
  obtain⟨hq,hqb⟩:=beat_at h hxr
  have hm:=mul_b h.sz hqb
  have e:zBO b L (i+1)=zBO b L i+b.size*zEK b x:=by show _+b.size*zEK b ((L[i]?).getD 0)=_;rw[hx];rfl
  generalize zEK b x=q at hq hqb hm e
  refine kQ (yE rfl rfl rfl (zA (k_seq (k_cT rfl (decide_eq_true (by omega)) (zT (k_seq (zR (kQ ?_))))))))
  refine yg (u:=.int .i64 (x)) rfl ty94 rfl rfl (Int.natCast_nonneg _) (by simp[hx]) cl3 ?_
  refine zl rfl rfl sh3 rfl ?_
  refine zC rfl (zA (ym [.plain,.plain,.plain,.read true,.plain,.plain,.read true,.plain,.plain,.read true,.plain,.plain,.plain] (by kernel_rfl) (by kernel_rfl) (by kernel_rfl) ?_))
  refine zD (zB rfl (zA rfl)) (zD (zF rfl rfl yy (zA rfl)) ?_)
  refine zD (zF rfl rfl yY (zA rfl)) ?_
  refine zX rfl (zG rfl rfl rfl sh3 rfl (zA rfl)) (zD (zF rfl rfl yy (zA rfl)) ?_)
  refine zD (zF rfl rfl zCW (zA rfl)) ?_
  refine zX rfl (zG rfl rfl rfl sh22 rfl (zA rfl)) (zD (zB rfl (zA rfl)) (zD (yg (u:=.int .i64 (q)) rfl ty22 rfl rfl (by omega) (by simp[hq]) cl3 (zA rfl)) ?_))
  refine yT [(2,U.box 0 0),(8,.lst .ro 1 (zE L)),(9,.int .i64 ↑(List.length L)),(10,.int .i64 ↑i),(14,.int .i64 (zBO b L i)),(17,.int .i64 (Bk.size b)),(22,U.eref [.int .i64 q] 0)] [] ([SB.box [.int .i64 (Bk.parts b),.int .i64 (Bk.size b),.lst .ro 1 (zE (Bk.beats b)),.int .i64 (Bk.start b),.int .i64 (Bk.fin b),.int .i64 (Bk.tlo b),.int .i64 (Bk.thi b),.int .i64 (Bk.slo b),.int .i64 (Bk.shi b),.int .i64 (Bk.notice b),.lst .ro 3 (plsU (Bk.players b))]]) (.c4 rfl rfl rfl rfl (.cons rfl (.cons rfl (.cons rfl (.nil rfl))))) rfl rfl fun fr=>?_
  refine zX rfl (zl rfl rfl sh3 rfl (zA rfl)) ?_
  refine zD (o_mul rfl rfl rfl (by unfold I64;omega) (zA rfl)) ?_
  refine zD (wM rfl rfl rfl (by unfold I64;omega) (zA rfl)) ?_
  refine zD (zC rfl (zA rfl)) ?_
  refine zAA ?_
  refine zL [(2,U.box 0 0),(5,.int .i64 (zBO b L i+Bk.size b*q)),(8,.lst .ro 1 (zE L)),(9,.int .i64 ↑(List.length L)),(10,.int .i64 ↑i)] ([SB.box [.int .i64 (Bk.parts b),.int .i64 (Bk.size b),.lst .ro 1 (zE (Bk.beats b)),.int .i64 (Bk.start b),.int .i64 (Bk.fin b),.int .i64 (Bk.tlo b),.int .i64 (Bk.thi b),.int .i64 (Bk.slo b),.int .i64 (Bk.shi b),.int .i64 (Bk.notice b),.lst .ro 3 (plsU (Bk.players b))]]) (.c4 rfl rfl rfl rfl (.cons rfl (.nil rfl))) rfl fun fr=>?_
  refine k_region ?_
  refine wM rfl rfl rfl (by unfold I64;omega) (zB rfl (zA ?_))
  exact⟨kk - 1,by omega,i+1,by omega,rfl,.cons rfl (.cons (by show U.int .i64 _=_;rw[e]) (.cons rfl (.cons rfl (.cons rfl (.nil rfl)))))⟩
 ·have hie:i=L.length:=by omega
  subst hie
  refine kQ (yE rfl rfl rfl (zA (k_seq (k_cF rfl (decide_eq_false (by omega)) (yh (kQ (zB rfl (zC rfl ?_))))))))
  refine zA (zY ?_)
  refine⟨.inr rfl,_,.cons _ _ _ _ (.tmp 4) .nil,?_⟩
  exact .refl _
theorem ret15(hi:Off is){b:Bk}{L:List Int}(h:BOk b)(hp:POk b L):RetP Tryd.prog is orc 15 [b.u,.lst .ro 1 (zE L)] (.tup [.int .i64 (zBO b L L.length),.int .i64 0]):=by
 refine yC body15 pure15 (hi 15 (by decide)) rfl rfl (yL (yZ b 4) (zi 6 .ro (fun h=>by cases h) 1 L)) (.inr ⟨_,rfl,yL (k:=7) (.int _ _ _) (.int _ _ _)⟩) ?_
 have hn:L.length≤8:=by have:=hp.len;have:=h.pa;omega
 refine kQ (ze rfl rfl (zC rfl (zC rfl (zA ?_))))
 refine zL [(1,.lst .ro 1 (zE L)),(2,U.box 0 0)] ([SB.box [.int .i64 (Bk.parts b),.int .i64 (Bk.size b),.lst .ro 1 (zE (Bk.beats b)),.int .i64 (Bk.start b),.int .i64 (Bk.fin b),.int .i64 (Bk.tlo b),.int .i64 (Bk.thi b),.int .i64 (Bk.slo b),.int .i64 (Bk.shi b),.int .i64 (Bk.notice b),.lst .ro 3 (plsU (Bk.players b))]]) (.cons rfl (.cons rfl (.nil rfl))) rfl fun fr=>?_
 refine kQ (zJ rfl rfl rfl sh27 rfl (zB rfl (zO rfl (ret54 hi h hp) (.lrefl _) ?_)))
 refine zB rfl (zc rfl rfl rfl (zc rfl rfl rfl (zd rfl ze75 ?_)))
 refine zS rfl rfl sh75 rfl rfl rfl rfl rfl ?_
 refine zC rfl (zA ?_)
 refine zL [(1,.lst .ro 1 (zE L)),(6,U.box 1 0),(7,.int .i64 0)] ([SB.box [.int .i64 (Bk.parts b),.int .i64 (Bk.size b),.lst .ro 1 (zE (Bk.beats b)),.int .i64 (Bk.start b),.int .i64 (Bk.fin b),.int .i64 (Bk.tlo b),.int .i64 (Bk.thi b),.int .i64 (Bk.slo b),.int .i64 (Bk.shi b),.int .i64 (Bk.notice b),.lst .ro 3 (plsU (Bk.players b))],SB.box [.int .i64 (Bk.parts b),.int .i64 (Bk.size b),.lst .ro 1 (zE (Bk.beats b)),.int .i64 (Bk.start b),.int .i64 (Bk.fin b),.int .i64 (Bk.tlo b),.int .i64 (Bk.thi b),.int .i64 (Bk.slo b),.int .i64 (Bk.shi b),.int .i64 (Bk.notice b),.lst .ro 3 (plsU (Bk.players b))]]) (.cons rfl (.cons rfl (.cons rfl (.nil rfl)))) rfl fun fr=>?_
 refine k_seq (kQ (zB rfl (yz rfl rfl rfl (zA (k_cF rfl rfl ?_)))))
 refine zT (kQ (zJ rfl rfl rfl sh75 rfl (zB rfl (zO rfl (ret55 hi h hp.rg hn) (.lrefl _) ?_))))
 refine zC rfl (zC rfl (zA (zY ?_)))
 refine⟨.inr rfl,_,.cons _ _ _ _ (.tmp 4) (.cons _ _ _ _ (.tmp 5) .nil),?_⟩
 exact .refl _
end
section
theorem ty28:tyOf Tryd.prog 28=.array 2 3:=by kernel_rfl
end
end Go.Proofs.YtfbmlibilcjlgaaDoor.drumPaths
