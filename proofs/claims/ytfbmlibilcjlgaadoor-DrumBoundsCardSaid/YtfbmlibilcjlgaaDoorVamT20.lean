import Derived.Test.YtfbmlibilcjlgaaDoorVamT19
set_option linter.unusedVariables false
set_option linter.unusedSimpArgs false
set_option linter.constructorNameAsVariable false
namespace Go.Proofs.YtfbmlibilcjlgaaDoor.drumBounds
open Vam
variable {is:FuncId→Bool}{orc:Known}
noncomputable def b56:Code:=(Tryd.f56.body).getD .skip
theorem body56:bodyOf Tryd.prog 56=some (45,b56,[.tmp 4]):=by kernel_rfl
theorem pure56:pureFn Tryd.prog 56=true:=by kernel_rfl
def rl2(b:Bk)(k:Nat)(x:Int):Bool:=decide (0<k)||decide (x=b.start)
def rl3(L:List Int)(k:Nat)(x:Int):Bool:=decide (k=0)||decide (zCe ((L[k - 1]?).getD 0) x≤1)
def stB(b:Bk)(L:List Int)(k:Nat):Bool:=inS 0 3 ((L[k]?).getD 0)&&(rl2 b k ((L[k]?).getD 0)&&rl3 L k ((L[k]?).getD 0))
def zBi(b:Bk)(L:List Int):Bool:=decide ((L.length:Int)=b.parts)&&(List.range L.length).all (stB b L)
theorem zFa{b:Bk}{L:List Int}{k:Nat}(hk:k<L.length)(h:stB b L k=false):zBi b L=false:=by
 unfold zBi
 rw[show(List.range L.length).all (stB b L)=false by rw[List.all_eq_false];exact⟨k,List.mem_range.2 hk,by rw[h];decide⟩,Bool.and_false]
theorem st_rg{b:Bk}{L:List Int}{n:Nat}(h:∀k,k<n→stB b L k=true)(hn:n≤L.length):∀y∈L.take n,0≤y∧y≤3:=by
 intro y hy
 obtain⟨k,hk,rfl⟩:=List.mem_iff_getElem.1 hy
 rw[List.length_take]at hk
 have:=h k (by omega)
 unfold stB at this
 rw[Bool.and_eq_true,List.getElem?_eq_getElem (show k<L.length by omega)]at this
 rw[List.getElem_take]
 exact zBn.1 this.1
theorem st_true{b:Bk}{L:List Int}(hl:(L.length:Int)=b.parts)(h:∀k,k<L.length→stB b L k=true):zBi b L=true:=by
 unfold zBi
 rw[decide_eq_true hl,Bool.true_and,List.all_eq_true]
 exact fun k hk=>h k (List.mem_range.1 hk)
theorem zFj{b:Bk}(hb:BOk b){L:List Int}:zBi b L=true↔POk b L:=by
 have hpa:=hb.pa
 constructor
 ·intro h
  unfold zBi at h
  rw[Bool.and_eq_true,decide_eq_true_iff,List.all_eq_true]at h
  obtain⟨h1,h2⟩:=h
  have h2:∀k,k<L.length→stB b L k=true:=fun k hk=>h2 k (List.mem_range.2 hk)
  have hr:=st_rg h2 (Nat.le_refl _)
  rw[List.take_length]at hr
  refine⟨h1,hr,?_,fun i x y hx hy=>?_⟩
  ·have h3:=h2 0 (by omega)
   have e:L[0]? =some (L[0]'(by omega)):=List.getElem?_eq_getElem (by omega)
   unfold stB rl2 at h3
   rw[e]at h3 ⊢
   simp only[Bool.and_eq_true,Bool.or_eq_true,decide_eq_true_eq,Option.getD_some]at h3
   have:=h3.2.1
   congr 1
   omega
  ·have hi1:=(List.getElem?_eq_some_iff.1 hy).1
   have h3:=h2 (i+1) hi1
   unfold stB rl3 at h3
   rw[hy,Nat.add_sub_cancel,hx]at h3
   simp only[Bool.and_eq_true,Bool.or_eq_true,decide_eq_true_eq,Option.getD_some]at h3
   have:=h3.2.2
   unfold zCe at this
   omega
 ·intro h
  refine st_true h.len fun k hk=>?_
  have hx:L[k]? =some (L[k]'hk):=List.getElem?_eq_getElem hk
  unfold stB rl2 rl3
  rw[hx]
  simp only[Bool.and_eq_true,Bool.or_eq_true,decide_eq_true_eq,Option.getD_some]
  refine⟨zBn.2 (h.rg _ (List.getElem_mem hk)),?_,?_⟩
  ·rcases Nat.eq_zero_or_pos k with h0|h0
   ·subst h0
    have:=h.st
    rw[hx]at this
    exact .inr (Option.some.inj this)
   ·exact .inl h0
  ·rcases Nat.eq_zero_or_pos k with h0|h0
   ·exact .inl h0
   ·have hw:L[k - 1]? =some (L[k - 1]'(by omega)):=List.getElem?_eq_getElem (by omega)
    have:=h.nr (k - 1) _ _ hw (by rw[show k - 1+1=k by omega];exact hx)
    rw[hw]
    unfold zCe
    simp only[Option.getD_some]
    right;omega
abbrev V62(b:Bk):List SB:=[.box [.int .i64 b.parts,.int .i64 b.size,.lst .ro 1 (zG b.beats),.int .i64 b.start,.int .i64 b.fin,.int .i64 b.tlo,.int .i64 b.thi,.int .i64 b.slo,.int .i64 b.shi,.int .i64 b.notice,.lst .ro 3 (plsU b.players)],.box [U.fn 115 [] [],U.fn 116 [b.u] [],U.fn 117 [] []]]
set_option maxHeartbeats 8000000 in
theorem ret62g(hi:Off is){b:Bk}(hb:BOk b)(l:List Int):RetP Tryd.prog is orc 62 [b.u,.lst .ro 1 (zG l)] (.bool (zBi b l)):=by
 refine zk body62 pure62 (hi 62 (by decide)) rfl rfl (yM (yK b 4) (zr 6 .ro (fun h=>by cases h) 1 l)) (.inl (.bool _ _)) ?_
 have hp:=hb.pa
 have q94:=ret94 (orc:=orc) hi b
 by_cases hlen:(l.length:Int)=b.parts
 ·refine kQ ?_
  refine zc rfl rfl (zB rfl (zA ?_))
  refine zH [(1,.lst .ro 1 (zG l)),(2,U.box 0 0)] ([SB.box (Bk.cs b)]) (.cons rfl (.cons rfl (.nil rfl))) rfl fun fr=>?_
  refine k_seq (kQ (zC rfl (yF rfl ty94 rfl (List.length_map _) ?_)))
  refine zE rfl rfl yB (zE rfl rfl wU (zF rfl rfl rfl sh3 rfl (wC rfl rfl rfl (zA (k_cF rfl (decide_eq_false (by omega)) (zQ (kQ (zJ rfl rfl rfl sh75 rfl ?_))))))))
  refine zP rfl (q94) (.lrefl _) (zi rfl ze118 ?_)
  refine zZ rfl rfl sh118 rfl rfl rfl rfl rfl ?_
  refine zA ?_
  refine zH [(1,.lst .ro 1 (zG l)),(5,U.box 1 0)] ([SB.box (Bk.cs b),SB.box [U.fn 115 [] [],U.fn 116 [Bk.u b] [],U.fn 117 [] []]]) (.cons rfl (.cons rfl (.nil rfl))) rfl fun fr=>?_
  refine k_seq (kQ (zC rfl (yF rfl ty94 rfl (List.length_map _) ?_)))
  refine zC rfl (zA (zL ?_))
  refine yh (fun kk s2=>∃i:Nat,kk+i=l.length∧(∀k,k<i→stB b l k=true)∧s2.st=V62 b∧Holds s2 [(1,.lst .ro 1 (zG l)),(5,.box 1 0),(18,.int .i64 l.length),(19,.int .i64 i),(17,.lst .ro 1 (zG l))]) (fun kk s2 hI=>?_) l.length _ ⟨0,rfl,fun k hk=>absurd hk (Nat.not_lt_zero _),rfl,.c4 rfl rfl rfl rfl (.cons rfl (.nil rfl))⟩
  obtain⟨i,hk,hall,hst2,hs2⟩:=hI
  refine zH _ _ hs2 hst2 fun fr2=>?_
  by_cases hin:i<l.length
  ·obtain⟨x,hx⟩:∃x,l[i]? =some x:=⟨l[i],List.getElem?_eq_getElem hin⟩
   have q115:=ret115 (orc:=orc) hi hx (by omega)
   have q116:RetP Tryd.prog is orc 116 [b.u,.lst .ro 1 (zG l),.int .i64 i] (.bool (rl2 b i x)):=ret116g hi hx (by omega)
   have q117:inS 0 3 x=true→RetP Tryd.prog is orc 117 [.lst .ro 1 (zG l),.int .i64 i] (.bool (rl3 l i x)):=fun h=>ret117 hi hx (fun y hy=>by
    rw[List.take_add_one,hx]at hy
    rcases List.mem_append.1 hy with hy|hy
    ·exact st_rg hall (by omega) y hy
    ·rcases List.mem_singleton.1 hy with rfl;exact zBn.1 h) (by omega)
   have hst:stB b l i=(inS 0 3 x&&(rl2 b i x&&rl3 l i x)):=by unfold stB;rw[hx];rfl
   have hF:(inS 0 3 x&&(rl2 b i x&&rl3 l i x))=false→zBi b l=false:=fun h=>zFa hin (by rw[hst];exact h)
   generalize inS 0 3 x=z1 at*
   generalize rl2 b i x=z2 at*
   generalize rl3 l i x=z3 at*
   refine kQ (zf rfl rfl rfl (zA (k_seq (k_cT rfl (decide_eq_true (by omega)) (zQ (k_seq (zL (kQ ?_))))))))
   refine zC rfl (zB rfl (zA (kQ (zJ rfl rfl rfl sh118 rfl (zC rfl (zA (zL ?_)))))))
   refine yh (fun mm s2=>∃j:Nat,mm+j=3∧(0<j→z1=true)∧(1<j→z2=true)∧(2<j→z3=true)∧s2.st=V62 b∧Holds s2 [(1,.lst .ro 1 (zG l)),(5,.box 1 0),(6,.int .i64 i),(17,.lst .ro 1 (zG l)),(18,.int .i64 l.length),(19,.int .i64 i),(22,.agg [U.fn 115 [] [],U.fn 116 [b.u] [],U.fn 117 [] []]),(23,.int .i64 j)]) (fun mm s2 hI=>?_) 3 _ ⟨0,rfl,fun h=>absurd h (by omega),fun h=>absurd h (by omega),fun h=>absurd h (by omega),rfl,.c4 rfl rfl rfl rfl (.c4 rfl rfl rfl rfl (.nil rfl))⟩
   obtain⟨j,hj,g1,g2,g3,hst2,hs2⟩:=hI
   refine zH _ _ hs2 hst2 fun fr2=>?_
   have hj3:j=0∨j=1∨j=2∨j=3:=by omega
   rcases hj3 with rfl|rfl|rfl|rfl
   ·cases z1 with
    |true=>
     refine kQ (zf rfl rfl rfl (zA (k_seq (k_cT rfl rfl ?_))))
     refine zQ (k_seq (zL (kQ (wg rfl zDr rfl rfl (by omega) (by omega) zEN zDv rfl ?_))))
     refine zB rfl (zA (kQ (zC rfl (zC rfl (zC rfl (ye rfl rfl q115 (.lrefl _) ?_))))))
     refine yu rfl rfl (zA (k_cF rfl rfl ?_))
     refine zQ (k_region ?_)
     refine yO rfl rfl rfl (by unfold I64;omega) (zC rfl (zA ?_))
     exact⟨mm - 1,by omega,1,by omega,fun _=>rfl,fun h=>absurd h (by omega),fun h=>absurd h (by omega),rfl,.c4 rfl rfl rfl rfl (.c4 rfl rfl rfl rfl (.nil rfl))⟩
    |false=>
     rw[hF rfl]
     refine kQ (zf rfl rfl rfl (zA (k_seq (k_cT rfl rfl ?_))))
     refine zQ (k_seq (zL (kQ (wg rfl zDr rfl rfl (by omega) (by omega) zEN zDv rfl ?_))))
     refine zB rfl (zA (kQ (zC rfl (zC rfl (zC rfl (ye rfl rfl q115 (.lrefl _) ?_))))))
     refine yu rfl rfl (zA (k_cT rfl rfl ?_))
     refine kQ (zB rfl (zA (zU ?_)))
     refine⟨.inr rfl,_,.cons _ _ _ _ (.tmp 4) .nil,?_⟩
     exact .refl _
   ·cases z2 with
    |true=>
     refine kQ (zf rfl rfl rfl (zA (k_seq (k_cT rfl rfl ?_))))
     refine zQ (k_seq (zL (kQ (wg rfl zDr rfl rfl (by omega) (by omega) zEN zDv rfl ?_))))
     refine zB rfl (zA (kQ (zC rfl (zC rfl (zC rfl (ye rfl rfl q116 (.lrefl _) ?_))))))
     refine yu rfl rfl (zA (k_cF rfl rfl ?_))
     refine zQ (k_region ?_)
     refine yO rfl rfl rfl (by unfold I64;omega) (zC rfl (zA ?_))
     exact⟨mm - 1,by omega,2,by omega,fun _=>g1 (by omega),fun _=>rfl,fun h=>absurd h (by omega),rfl,.c4 rfl rfl rfl rfl (.c4 rfl rfl rfl rfl (.nil rfl))⟩
    |false=>
     rw[hF (by simp)]
     refine kQ (zf rfl rfl rfl (zA (k_seq (k_cT rfl rfl ?_))))
     refine zQ (k_seq (zL (kQ (wg rfl zDr rfl rfl (by omega) (by omega) zEN zDv rfl ?_))))
     refine zB rfl (zA (kQ (zC rfl (zC rfl (zC rfl (ye rfl rfl q116 (.lrefl _) ?_))))))
     refine yu rfl rfl (zA (k_cT rfl rfl ?_))
     refine kQ (zB rfl (zA (zU ?_)))
     refine⟨.inr rfl,_,.cons _ _ _ _ (.tmp 4) .nil,?_⟩
     exact .refl _
   ·have q117:=q117 (g1 (by omega))
    cases z3 with
    |true=>
     refine kQ (zf rfl rfl rfl (zA (k_seq (k_cT rfl rfl ?_))))
     refine zQ (k_seq (zL (kQ (wg rfl zDr rfl rfl (by omega) (by omega) zEN zDv rfl ?_))))
     refine zB rfl (zA (kQ (zC rfl (zC rfl (zC rfl (ye rfl rfl q117 (.lrefl _) ?_))))))
     refine yu rfl rfl (zA (k_cF rfl rfl ?_))
     refine zQ (k_region ?_)
     refine yO rfl rfl rfl (by unfold I64;omega) (zC rfl (zA ?_))
     exact⟨mm - 1,by omega,3,by omega,fun _=>g1 (by omega),fun _=>g2 (by omega),fun _=>rfl,rfl,.c4 rfl rfl rfl rfl (.c4 rfl rfl rfl rfl (.nil rfl))⟩
    |false=>
     rw[hF (by simp)]
     refine kQ (zf rfl rfl rfl (zA (k_seq (k_cT rfl rfl ?_))))
     refine zQ (k_seq (zL (kQ (wg rfl zDr rfl rfl (by omega) (by omega) zEN zDv rfl ?_))))
     refine zB rfl (zA (kQ (zC rfl (zC rfl (zC rfl (ye rfl rfl q117 (.lrefl _) ?_))))))
     refine yu rfl rfl (zA (k_cT rfl rfl ?_))
     refine kQ (zB rfl (zA (zU ?_)))
     refine⟨.inr rfl,_,.cons _ _ _ _ (.tmp 4) .nil,?_⟩
     exact .refl _
   ·have hsi:stB b l i=true:=by rw[hst,g1 (by omega),g2 (by omega),g3 (by omega)];rfl
    refine kQ (zf rfl rfl rfl (zA (k_seq (k_cF rfl rfl ?_))))
    refine yP (k_region ?_)
    refine yO rfl rfl rfl (by unfold I64;omega) (zC rfl (zA ?_))
    exact⟨kk - 1,by omega,i+1,by omega,fun k hk=>(Nat.lt_or_ge k i).elim (fun h2=>hall k h2) (fun h2=>(show i=k by omega) ▸ hsi),rfl,.c4 rfl rfl rfl rfl (.cons rfl (.nil rfl))⟩
  ·rw[st_true hlen (fun k hk=>hall k (by omega))]
   refine kQ (zf rfl rfl rfl (zA (k_seq (k_cF rfl (decide_eq_false (by omega)) (yP (kQ (zB rfl (zA ?_))))))))
   refine zU ?_
   refine⟨.inr rfl,_,.cons _ _ _ _ (.tmp 4) .nil,?_⟩
   exact .refl _
 ·have hF:zBi b l=false:=by unfold zBi;rw[decide_eq_false hlen,Bool.false_and]
  rw[hF]
  refine kQ (zc rfl rfl (zB rfl (zA ?_)))
  refine zH [(1,.lst .ro 1 (zG l)),(2,U.box 0 0)] ([SB.box (Bk.cs b)]) (.cons rfl (.cons rfl (.nil rfl))) rfl fun fr=>?_
  refine k_seq (kQ (zC rfl (yF rfl ty94 rfl (List.length_map _) ?_)))
  refine zE rfl rfl yB (zE rfl rfl wU (zF rfl rfl rfl sh3 rfl (wC rfl rfl rfl (zA (k_cT rfl (decide_eq_true (by omega)) (kQ (zB rfl (zA ?_))))))))
  refine zU ?_
  refine⟨.inr rfl,_,.cons _ _ _ _ (.tmp 4) .nil,?_⟩
  exact .refl _
  done
end Go.Proofs.YtfbmlibilcjlgaaDoor.drumBounds
