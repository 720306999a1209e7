import Derived.Test.YthhbfbmfhldbaaaDoorVamT3
set_option linter.unusedVariables false
set_option linter.unusedSimpArgs false
set_option linter.constructorNameAsVariable false
namespace Go.Proofs.YthhbfbmfhldbaaaDoor.locks
open Vam
variable {is:FuncId→Bool}{orc:Known}{l:Ln}
theorem stk_le(p:List Int):∀i,stk p i≤i+1:=by
 intro i
 induction i with
 |zero=>exact Nat.le_refl _
 |succ i ih=>unfold stk;split<;>omega
theorem pl_at{p:List Int}{n:Nat}(h:p.length=n)(i:Nat):pl p i=at' p (i % n):=by
 unfold pl at'
 rw[h,←Int.natCast_emod,Int.toNat_natCast]
def cntN(l:Ln):Nat:=l.slots.length*(2+l.run.toNat / l.slots.length)
def CkD(l:Ln)(p:List Int)(i:Nat):Prop:=tokB l (pl p i) (at' l.slots (i % l.slots.length))=true∧(0≤pl p i→stk p i≤l.run.toNat)
theorem cnt_ge(h:VL l):l.slots.length+l.run.toNat≤cntN l∧l.slots.length≤cntN l:=by
 have hn:=h.n
 have h1:=Nat.div_add_mod l.run.toNat l.slots.length
 have h2:=Nat.mod_lt l.run.toNat (show 0<l.slots.length by omega)
 unfold cntN
 rw[Nat.mul_add]
 omega
theorem div_ck(h:VL l){p:List Int}(hp:p.length=l.slots.length):divB l p=true↔ ∀i,i<cntN l→CkD l p i:=by
 have hn:=h.n
 obtain⟨g1,g2⟩:=cnt_ge h
 rw[zBo,←stk_all (p:=p) (r:=l.run.toNat) (N:=cntN l) (by omega) (by omega)]
 constructor
 ·rintro⟨_,h2,h3⟩ i hi
  refine⟨?_,h3 i hi⟩
  rw[pl_at hp]
  exact h2 _ (Nat.mod_lt _ (by omega))
 ·intro hc
  refine⟨hp,fun i hi=>?_,fun i hi=>(hc i hi).2⟩
  have:=(hc i (by omega)).1
  rw[pl_at hp,Nat.mod_eq_of_lt hi]at this
  exact this
def ruI(p:List Int):Nat→Int
 |0=>0
 |i+1=>stk p i
def laI(p:List Int):Nat→Int
 |0=> -1
 |i+1=>pl p i
theorem stk_step(p:List Int)(i:Nat):(pl p i=laI p i∧0≤pl p i→(stk p i:Int)=ruI p i+1)∧(¬ (pl p i=laI p i∧0≤pl p i)→(stk p i:Int)=1):=by
 cases i with
 |zero=>
  refine⟨fun⟨h1,h2⟩=>?_,fun _=>rfl⟩
  rw[h1]at h2
  have h2:(0:Int)≤ -1:=h2
  omega
 |succ i=>
  show(pl p ((i+1:Nat):Int)=pl p i∧0≤pl p ((i+1:Nat):Int)→(((if _ then stk p i+1 else 1:Nat)):Int)=stk p i+1)∧(¬ _→(((if _ then stk p i+1 else 1:Nat)):Int)=1)
  constructor
  ·intro h;rw[if_pos (show pl p ((i+1:Nat):Int)=pl p i∧_ from h)];rfl
  ·intro h;rw[if_neg (show ¬ (pl p ((i+1:Nat):Int)=pl p i∧0≤pl p ((i+1:Nat):Int))from h)];rfl
set_option maxHeartbeats 16000000 in
theorem ret43(hi:Off is)(h:VL l)(p:List Int):RetP Tryd.prog is orc 43 [l.u,.lst .ro 1 (zE p)] (.bool (divB l p)):=by
 refine yW body43 pure43 (hi 43 (by decide)) rfl rfl (ww (wj l 5) (wI 6 .ro (fun h=>by cases h) 1 p)) (.inl (.bool _ _)) ?_
 have hn:=h.n
 have hrn:=h.rn
 have hlf:=h.lf
 have hrt:=h.rt
 by_cases hp:p.length=l.slots.length
 ·have hck:=div_ck h hp
  generalize divB l p=z at*
  have hD:l.run.tdiv l.slots.length=((l.run.toNat / l.slots.length:Nat):Int):=by
   rw[Int.tdiv_eq_ediv_of_nonneg (by omega),Int.natCast_ediv,Int.toNat_of_nonneg (by omega)]
  have hDb:l.run.toNat / l.slots.length≤16:=Nat.le_trans (Nat.div_le_self _ _) (by omega)
  have hNe:(l.slots.length:Int)*(2+l.run.tdiv l.slots.length)=(cntN l:Nat):=by rw[hD];unfold cntN;push_cast;rfl
  have hNb:cntN l≤288:=by
   unfold cntN
   exact Nat.le_trans (Nat.mul_le_mul (show l.slots.length≤16 by omega) (show 2+l.run.toNat / l.slots.length≤18 by omega)) (by decide)
  obtain⟨D,hDe⟩:∃D:Nat,D=l.run.toNat / l.slots.length:=⟨_,rfl⟩
  rw[←hDe]at hD hDb
  have i1:I64 (l.run.tdiv l.slots.length):=by rw[hD];unfold I64;omega
  have i2:I64 (2+l.run.tdiv l.slots.length):=by rw[hD];unfold I64;omega
  have i3:I64 ((l.slots.length:Int)*(2+l.run.tdiv l.slots.length)):=by rw[hNe];unfold I64;omega
  refine kQ (yK rfl rfl (zC rfl (zA ?_)))
  refine zH [(1,.lst .ro 1 (zE p)),(2,U.box 0 0)] ([SB.box [.lst .ro 1 (zE (Ln.slots l)),.int .i64 (Ln.left l),.int .i64 (Ln.right l),.int .i64 (Ln.run l)]]) (.n2 rfl) rfl fun fr=>?_
  refine kQ (kz rfl zQ (kB sh22 rfl (yG rfl ty22 rfl (List.length_map _) ?_)))
  refine zC rfl (zA (k_seq (kQ (zB rfl (yG rfl ty22 rfl (List.length_map _) ?_)))))
  refine zB rfl (ks rfl (zA (k_cF rfl (kH (by omega)) (zN (kQ (zC rfl (zC rfl (zA (k_seq (kQ (zC rfl (zA ?_))))))))))))
  refine zH [(1,.lst .ro 1 (zE p)),(2,U.box 0 0),(5,.int .i64 ↑(List.length (Ln.slots l))),(6,.int .i64 0),(7,.int .i64 (-1:Int)),(8,.int .i64 0)] ([SB.box [.lst .ro 1 (zE (Ln.slots l)),.int .i64 (Ln.left l),.int .i64 (Ln.right l),.int .i64 (Ln.run l)]]) (.n6 rfl) rfl fun fr=>?_
  refine zK ?_
  refine wD (fun kk s2=>∃i:Nat,kk+i=cntN l∧(∀j,j<i→CkD l p j)∧s2.st=[.box l.cs]∧Holds s2 [(1,.lst .ro 1 (zE p)),(2,.box 0 0),(5,.int .i64 l.slots.length),(6,.int .i64 (ruI p i)),(7,.int .i64 (laI p i)),(8,.int .i64 i)]) (fun kk s2 hI=>?_) (cntN l) _ ⟨0,rfl,(fun j hj=>by omega),rfl,.c4 rfl rfl rfl rfl (.n2 rfl)⟩
  obtain⟨i,hk,hall,hst2,hs2⟩:=hI
  by_cases hin:i<cntN l
  ·have k26:decide ((i:Int)<(l.slots.length:Int)*(2+l.run.tdiv l.slots.length))=true:=by rw[hNe];exact kG (by omega)
   have hml:i % l.slots.length<l.slots.length:=Nat.mod_lt _ (by omega)
   have hme:(i:Int).tmod l.slots.length=((i % l.slots.length:Nat):Int):=by rw[Int.tmod_eq_emod_of_nonneg (by omega)];rfl
   obtain⟨t,hx,ha,ht⟩:=h.at hml
   obtain⟨w,hw⟩:∃w,p[i % l.slots.length]? =some w:=⟨p[i % l.slots.length]'(by omega),List.getElem?_eq_getElem (by omega)⟩
   have hpw:pl p i=w:=by rw[pl_at hp];unfold at';rw[hw];rfl
   obtain⟨s1,s2'⟩:=stk_step p i
   have hsl:=stk_le p i
   have hck1:CkD l p i↔tokB l w t=true∧(0≤w→stk p i≤l.run.toNat):=by unfold CkD;rw[hpw,ha]
   have hru:ruI p (i+1)=(stk p i:Nat):=rfl
   have hla:laI p (i+1)=w:=hpw
   have hR:0≤ruI p i∧ruI p i≤400:=by
    cases i with
    |zero=>show(0:Int)≤0∧(0:Int)≤400;omega
    |succ i=>have:=stk_le p i;show(0:Int)≤(stk p i:Nat)∧((stk p i:Nat):Int)≤400;omega
   rw[hpw]at s1 s2'
   have hno:(¬ CkD l p i)→z=false:=fun hn=>by
    cases z with
    |false=>rfl
    |true=>exact absurd (hck.1 rfl i hin) hn
   have hnx:CkD l p i→∀j,j<i+1→CkD l p j:=fun hc j hj=>by
    by_cases e:j=i
    ·rw[e];exact hc
    ·exact hall j (by omega)
   have e1:0≤(i:Int).tmod l.slots.length:=by rw[hme];omega
   have e2:(i:Int).tmod l.slots.length<l.slots.length:=by rw[hme];omega
   have ep:(zE p)[((i:Int).tmod l.slots.length).toNat]? =some (.int .i64 w):=by rw[hme,Int.toNat_natCast,List.getElem?_map,hw];rfl
   have es:(zE l.slots)[((i:Int).tmod l.slots.length).toNat]? =some (.int .i64 t):=by rw[hme,Int.toNat_natCast,List.getElem?_map,hx];rfl
   have htk:tokB l w t=((decide (w= -1)&&decide (t= -1))||((decide (w=0)||decide (w=1))&&(decide (t≠ -1)&&bitI (zDV l w) t))):=rfl
   generalize ruI p i=R at*
   generalize laI p i=La at*
   generalize stk p i=K at*
   refine zH _ _ hs2 hst2 fun fr2=>?_
   refine k_seq (kQ (zB rfl (zB rfl (kz rfl wu (kB sh3 rfl (zB rfl ?_))))))
   refine o_quo rfl rfl rfl (by omega) (by unfold I64;omega) ?_
   refine kA rfl (by unfold I64;omega) ?_
   refine o_mul rfl rfl rfl (by unfold I64;omega) ?_
   refine kq rfl (zA (k_cT rfl (by assumption) (zN (k_seq (zK (k_seq (yU [.plain,.plain,.plain,.plain,.plain,.read true,.plain,.read true,.plain,.plain,.plain,.plain,.read true,.plain,.plain] (by kernel_rfl) (by kernel_rfl) (by kernel_rfl) ?_)))))))
   refine zD (zB rfl (zA rfl)) (zD (zB rfl (zA rfl)) (zD (zB rfl (zA rfl)) (zD (o_rem rfl rfl rfl (by omega) (zA rfl)) ?_)))
   refine zD (yT (u:=.int .i64 w) rfl ty22 rfl rfl e1 ep cl3 (zA rfl)) ?_
   refine zV rfl (kD sh3 rfl (zA rfl)) ?_
   refine zD (kz rfl zQ (zA rfl)) ?_
   refine zV rfl (kB sh22 rfl (zA rfl)) (zD (zB rfl (zA rfl)) ?_)
   refine yf [(1,.lst .ro 1 (zE p)),(2,U.box 0 0),(5,.int .i64 ↑(List.length (Ln.slots l))),(6,.int .i64 R),(7,.int .i64 La),(8,.int .i64 ↑i),(34,.int .i64 w),(36,.lst .ro 1 (zE (Ln.slots l))),(37,.int .i64 ↑i)] [] ([SB.box (Ln.cs l)]) (.n9 rfl) rfl rfl fun fr=>?_
   refine zD (zB rfl (zA rfl)) (zD (o_rem rfl rfl rfl (by omega) (zA rfl)) ?_)
   refine zD (yT (u:=.int .i64 t) rfl ty22 rfl rfl e1 es cl3 (zA rfl)) ?_
   refine zV rfl (kD sh3 rfl (zA rfl)) ?_
   refine zD (zC rfl (zA rfl)) ?_
   refine zD (zC rfl (zA rfl)) ?_
   refine wK ?_
   refine zH [(1,.lst .ro 1 (zE p)),(2,U.box 0 0),(5,.int .i64 ↑(List.length (Ln.slots l))),(6,.int .i64 R),(7,.int .i64 La),(8,.int .i64 ↑i),(9,.int .i64 w),(10,.int .i64 t)] ([SB.box (Ln.cs l)]) (.n8 rfl) rfl fun fr=>?_
   refine k_cutR (fun s5=>((t<0∧w= -1)∨(0≤t∧(w=0∨w=1)))∧s5.st=[.box l.cs]∧Holds s5 [(1,.lst .ro 1 (zE p)),(2,.box 0 0),(5,.int .i64 l.slots.length),(6,.int .i64 R),(7,.int .i64 La),(8,.int .i64 i),(9,.int .i64 w),(10,.int .i64 t)]) ?_ ?_
   ·by_cases ct:t<0
    ·by_cases cw:w= -1
     ·refine kQ ?_
      refine zB rfl (kq rfl (zB rfl (kh rfl (kG (by omega)) ?_)))
      refine zB rfl (kh rfl (kG (by omega)) ?_)
      refine ks rfl (zo rfl rfl (kG (by omega)) ?_)
      refine zB rfl (kh rfl (kH (by omega)) (zB rfl (kh rfl (kH (by omega)) (zBj rfl rfl rfl ?_))))
      refine zj [(1,.lst .ro 1 (zE p)),(2,U.box 0 0),(5,.int .i64 ↑(List.length (Ln.slots l))),(6,.int .i64 R),(7,.int .i64 La),(8,.int .i64 ↑i),(9,.int .i64 w),(10,.int .i64 t),(45,.int .i64 w),(46,U.bool (decide (w≠(-1:Int)))),(48,U.bool (decide (w≠(-1:Int)))),(49,.int .i64 t),(50,U.bool (decide ((0:Int)≤t)))] [] ([SB.box (Ln.cs l)]) (.c4 rfl rfl rfl rfl (.n9 rfl)) rfl rfl fun fr=>?_
      refine kh rfl (kH (by omega)) ?_
      refine zj [(1,.lst .ro 1 (zE p)),(2,U.box 0 0),(5,.int .i64 ↑(List.length (Ln.slots l))),(6,.int .i64 R),(7,.int .i64 La),(8,.int .i64 ↑i),(9,.int .i64 w),(10,.int .i64 t),(45,.int .i64 w),(46,U.bool (decide (w≠(-1:Int)))),(48,U.bool (decide (w≠(-1:Int)))),(49,.int .i64 t),(50,U.bool (decide ((0:Int)≤t)))] [] ([SB.box (Ln.cs l)]) (.c4 rfl rfl rfl rfl (.n9 rfl)) rfl rfl fun fr=>?_
      refine zB rfl (kg rfl (kH (by omega)) ?_)
      refine kg rfl (kH (by omega)) ?_
      refine kh rfl (kH (by omega)) (yc rfl rfl (kH (by omega)) ?_)
      refine kh rfl (kH (by omega)) (zB rfl (ke rfl (ke rfl (kh rfl (kH (by omega)) (kE rfl ?_)))))
      refine yc rfl rfl (kH (by omega)) ?_
      refine zA ?_
      refine zH [(1,.lst .ro 1 (zE p)),(2,U.box 0 0),(5,.int .i64 ↑(List.length (Ln.slots l))),(6,.int .i64 R),(7,.int .i64 La),(8,.int .i64 ↑i),(9,.int .i64 w),(10,.int .i64 t),(45,.int .i64 w),(46,U.bool (decide (w≠(-1:Int)))),(49,.int .i64 t),(50,U.bool (decide ((0:Int)≤t))),(51,U.bool (decide ((0:Int)≤t))),(52,U.tup []),(53,U.tup []),(54,.bool false),(55,.bool false),(56,U.tup []),(57,U.tup []),(58,.bool false),(59,.bool false)] ([SB.box (Ln.cs l)]) (.c4 rfl rfl rfl rfl (.c4 rfl rfl rfl rfl (.c4 rfl rfl rfl rfl (.n9 rfl)))) rfl fun fr=>?_
      refine k_cF rfl rfl ?_
      refine zN ?_
      exact .inl ⟨rfl,.inl ⟨ct,cw⟩,rfl,.c4 rfl rfl rfl rfl (.n4 rfl)⟩
     ·rw[kH cw,Bool.false_and,Bool.false_or,show decide (t≠ -1)=false from kH (by omega),Bool.false_and,Bool.and_false]at htk
      have hz:=hno fun hc=>by rw[(hck1.1 hc).1]at htk;cases htk
      subst hz
      refine kQ (zB rfl (kq rfl (zB rfl (kh rfl (kG (by omega)) ?_))))
      refine zB rfl (kh rfl (kG (by omega)) ?_)
      refine ks rfl (zo rfl rfl (kG (by omega)) ?_)
      refine zB rfl (kg rfl (kG (by omega)) (kg rfl (kG (by omega)) ?_))
      refine zj [(1,.lst .ro 1 (zE p)),(2,U.box 0 0),(5,.int .i64 ↑(List.length (Ln.slots l))),(6,.int .i64 R),(7,.int .i64 La),(8,.int .i64 ↑i),(9,.int .i64 w),(10,.int .i64 t),(45,.int .i64 w),(46,U.bool (decide (w≠(-1:Int)))),(48,U.bool (decide (w≠(-1:Int)))),(49,U.tup []),(50,U.tup [])] [] ([SB.box (Ln.cs l)]) (.c4 rfl rfl rfl rfl (.n9 rfl)) rfl rfl fun fr=>?_
      refine kg rfl (kG (by omega)) (zDY rfl rfl rfl rfl ?_)
      refine zDY rfl rfl rfl rfl ?_
      refine kg rfl (kG (by omega)) (kg rfl (kG (by omega)) (zDY rfl rfl rfl rfl ?_))
      refine zDY rfl rfl rfl rfl ?_
      refine kg rfl (kG (by omega)) (zo rfl rfl (kG (by omega)) ?_)
      refine zA ?_
      refine zH [(1,.lst .ro 1 (zE p)),(2,U.box 0 0),(5,.int .i64 ↑(List.length (Ln.slots l))),(6,.int .i64 R),(7,.int .i64 La),(8,.int .i64 ↑i),(9,.int .i64 w),(10,.int .i64 t),(45,.int .i64 w),(46,U.bool (decide (w≠(-1:Int)))),(49,U.tup []),(50,U.tup []),(51,U.tup []),(52,U.tup []),(53,U.tup []),(54,U.tup []),(55,U.tup []),(56,U.tup []),(57,U.tup []),(58,U.tup []),(59,.bool true)] ([SB.box (Ln.cs l)]) (.c4 rfl rfl rfl rfl (.c4 rfl rfl rfl rfl (.c4 rfl rfl rfl rfl (.n9 rfl)))) rfl fun fr=>?_
      refine k_cT rfl rfl ?_
      refine kQ (zC rfl (zA (za ?_)))
      exact .inr ⟨(fun e=>by cases e),.inr rfl,_,.cons _ _ _ _ (.tmp 4) .nil,.refl _⟩
    ·by_cases cw:w=0
     ·refine kQ ?_
      refine zB rfl (kq rfl (zB rfl (kg rfl (kH (by omega)) ?_)))
      refine kg rfl (kH (by omega)) ?_
      refine yc rfl rfl (kH (by omega)) ?_
      refine zB rfl (kf rfl (zB rfl (kf rfl (zBj rfl rfl rfl ?_))))
      refine zj [(1,.lst .ro 1 (zE p)),(2,U.box 0 0),(5,.int .i64 ↑(List.length (Ln.slots l))),(6,.int .i64 R),(7,.int .i64 La),(8,.int .i64 ↑i),(9,.int .i64 w),(10,.int .i64 t),(45,U.tup []),(46,U.tup []),(48,.bool false),(49,.int .i64 t),(50,U.bool (decide ((0:Int)≤t)))] [] ([SB.box (Ln.cs l)]) (.c4 rfl rfl rfl rfl (.n9 rfl)) rfl rfl fun fr=>?_
      refine kf rfl ?_
      refine zj [(1,.lst .ro 1 (zE p)),(2,U.box 0 0),(5,.int .i64 ↑(List.length (Ln.slots l))),(6,.int .i64 R),(7,.int .i64 La),(8,.int .i64 ↑i),(9,.int .i64 w),(10,.int .i64 t),(45,U.tup []),(46,U.tup []),(48,.bool false),(49,.int .i64 t),(50,U.bool (decide ((0:Int)≤t)))] [] ([SB.box (Ln.cs l)]) (.c4 rfl rfl rfl rfl (.n9 rfl)) rfl rfl fun fr=>?_
      refine zB rfl (kh rfl (kG (by omega)) ?_)
      refine zB rfl (kh rfl (kG (by omega)) ?_)
      refine ks rfl (kf rfl (zo rfl rfl (kG (by omega)) ?_))
      refine kf rfl (zB rfl (kg rfl (kH (by omega)) ?_))
      refine kg rfl (kH (by omega)) ?_
      refine kf rfl (yc rfl rfl (kH (by omega)) ?_)
      refine kE rfl ?_
      refine zA ?_
      refine zH [(1,.lst .ro 1 (zE p)),(2,U.box 0 0),(5,.int .i64 ↑(List.length (Ln.slots l))),(6,.int .i64 R),(7,.int .i64 La),(8,.int .i64 ↑i),(9,.int .i64 w),(10,.int .i64 t),(45,U.tup []),(46,U.tup []),(49,.int .i64 t),(50,U.bool (decide ((0:Int)≤t))),(51,U.bool (decide ((0:Int)≤t))),(52,.int .i64 w),(53,U.bool (decide (w≠(0:Int)))),(54,U.bool (decide (w≠(0:Int)))),(55,U.bool (decide (w≠(0:Int)))),(56,U.tup []),(57,U.tup []),(58,.bool false),(59,.bool false)] ([SB.box (Ln.cs l)]) (.c4 rfl rfl rfl rfl (.c4 rfl rfl rfl rfl (.c4 rfl rfl rfl rfl (.n9 rfl)))) rfl fun fr=>?_
      refine k_cF rfl rfl ?_
      refine zN ?_
      exact .inl ⟨rfl,.inr ⟨by omega,.inl cw⟩,rfl,.c4 rfl rfl rfl rfl (.n4 rfl)⟩
     ·by_cases cw1:w=1
      ·refine kQ ?_
       refine zB rfl (kq rfl (zB rfl (kg rfl (kH (by omega)) ?_)))
       refine kg rfl (kH (by omega)) ?_
       refine yc rfl rfl (kH (by omega)) ?_
       refine zB rfl (kf rfl (zB rfl (kf rfl (zBj rfl rfl rfl ?_))))
       refine zj [(1,.lst .ro 1 (zE p)),(2,U.box 0 0),(5,.int .i64 ↑(List.length (Ln.slots l))),(6,.int .i64 R),(7,.int .i64 La),(8,.int .i64 ↑i),(9,.int .i64 w),(10,.int .i64 t),(45,U.tup []),(46,U.tup []),(48,.bool false),(49,.int .i64 t),(50,U.bool (decide ((0:Int)≤t)))] [] ([SB.box (Ln.cs l)]) (.c4 rfl rfl rfl rfl (.n9 rfl)) rfl rfl fun fr=>?_
       refine kf rfl ?_
       refine zj [(1,.lst .ro 1 (zE p)),(2,U.box 0 0),(5,.int .i64 ↑(List.length (Ln.slots l))),(6,.int .i64 R),(7,.int .i64 La),(8,.int .i64 ↑i),(9,.int .i64 w),(10,.int .i64 t),(45,U.tup []),(46,U.tup []),(48,.bool false),(49,.int .i64 t),(50,U.bool (decide ((0:Int)≤t)))] [] ([SB.box (Ln.cs l)]) (.c4 rfl rfl rfl rfl (.n9 rfl)) rfl rfl fun fr=>?_
       refine zB rfl (kh rfl (kG (by omega)) ?_)
       refine zB rfl (kh rfl (kG (by omega)) ?_)
       refine ks rfl (kf rfl (zo rfl rfl (kG (by omega)) ?_))
       refine kf rfl (zB rfl (kh rfl (kG (by omega)) ?_))
       refine zB rfl (kh rfl (kG (by omega)) ?_)
       refine ks rfl (kf rfl (zo rfl rfl (kG (by omega)) ?_))
       refine kE rfl ?_
       refine zA ?_
       refine zH [(1,.lst .ro 1 (zE p)),(2,U.box 0 0),(5,.int .i64 ↑(List.length (Ln.slots l))),(6,.int .i64 R),(7,.int .i64 La),(8,.int .i64 ↑i),(9,.int .i64 w),(10,.int .i64 t),(45,U.tup []),(46,U.tup []),(49,.int .i64 t),(50,U.bool (decide ((0:Int)≤t))),(51,U.bool (decide ((0:Int)≤t))),(52,.int .i64 w),(53,U.bool (decide (w≠(0:Int)))),(54,U.bool (decide (w≠(0:Int)))),(55,U.bool (decide (w≠(0:Int)))),(56,.int .i64 w),(57,U.bool (decide (w≠(1:Int)))),(58,U.bool (decide (w≠(1:Int)))),(59,U.bool (decide (w≠(1:Int))))] ([SB.box (Ln.cs l)]) (.c4 rfl rfl rfl rfl (.c4 rfl rfl rfl rfl (.c4 rfl rfl rfl rfl (.n9 rfl)))) rfl fun fr=>?_
       refine k_cF rfl (kH (by omega)) (zN ?_)
       exact .inl ⟨rfl,.inr ⟨by omega,.inr cw1⟩,rfl,.c4 rfl rfl rfl rfl (.n4 rfl)⟩
      ·have htf:tokB l w t=false:=by rw[htk,kH cw,kH cw1,show decide (t= -1)=false from kH (by omega),Bool.and_false];rfl
       have hz:=hno fun hc=>by rw[(hck1.1 hc).1]at htf;cases htf
       subst hz
       refine kQ (zB rfl (kq rfl (zB rfl (kg rfl (kH (by omega)) ?_))))
       refine kg rfl (kH (by omega)) ?_
       refine yc rfl rfl (kH (by omega)) ?_
       refine zB rfl (kf rfl (zB rfl (kf rfl (zBj rfl rfl rfl ?_))))
       refine zj [(1,.lst .ro 1 (zE p)),(2,U.box 0 0),(5,.int .i64 ↑(List.length (Ln.slots l))),(6,.int .i64 R),(7,.int .i64 La),(8,.int .i64 ↑i),(9,.int .i64 w),(10,.int .i64 t),(45,U.tup []),(46,U.tup []),(48,.bool false),(49,.int .i64 t),(50,U.bool (decide ((0:Int)≤t)))] [] ([SB.box (Ln.cs l)]) (.c4 rfl rfl rfl rfl (.n9 rfl)) rfl rfl fun fr=>?_
       refine kf rfl ?_
       refine zj [(1,.lst .ro 1 (zE p)),(2,U.box 0 0),(5,.int .i64 ↑(List.length (Ln.slots l))),(6,.int .i64 R),(7,.int .i64 La),(8,.int .i64 ↑i),(9,.int .i64 w),(10,.int .i64 t),(45,U.tup []),(46,U.tup []),(48,.bool false),(49,.int .i64 t),(50,U.bool (decide ((0:Int)≤t)))] [] ([SB.box (Ln.cs l)]) (.c4 rfl rfl rfl rfl (.n9 rfl)) rfl rfl fun fr=>?_
       refine zB rfl (kh rfl (kG (by omega)) ?_)
       refine zB rfl (kh rfl (kG (by omega)) ?_)
       refine ks rfl (kf rfl (zo rfl rfl (kG (by omega)) ?_))
       refine kf rfl (zB rfl (kh rfl (kG (by omega)) ?_))
       refine zB rfl (kh rfl (kG (by omega)) ?_)
       refine ks rfl (kf rfl (zo rfl rfl (kG (by omega)) ?_))
       refine kE rfl ?_
       refine zA ?_
       refine zH [(1,.lst .ro 1 (zE p)),(2,U.box 0 0),(5,.int .i64 ↑(List.length (Ln.slots l))),(6,.int .i64 R),(7,.int .i64 La),(8,.int .i64 ↑i),(9,.int .i64 w),(10,.int .i64 t),(45,U.tup []),(46,U.tup []),(49,.int .i64 t),(50,U.bool (decide ((0:Int)≤t))),(51,U.bool (decide ((0:Int)≤t))),(52,.int .i64 w),(53,U.bool (decide (w≠(0:Int)))),(54,U.bool (decide (w≠(0:Int)))),(55,U.bool (decide (w≠(0:Int)))),(56,.int .i64 w),(57,U.bool (decide (w≠(1:Int)))),(58,U.bool (decide (w≠(1:Int)))),(59,U.bool (decide (w≠(1:Int))))] ([SB.box (Ln.cs l)]) (.c4 rfl rfl rfl rfl (.c4 rfl rfl rfl rfl (.c4 rfl rfl rfl rfl (.n9 rfl)))) rfl fun fr=>?_
       refine k_cT rfl (kG (by omega)) (kQ (zC rfl (zA (za ?_))))
       exact .inr ⟨(fun e=>by cases e),.inr rfl,_,.cons _ _ _ _ (.tmp 4) .nil,.refl _⟩
   rintro s5 ⟨hwt,hst5,hs5⟩
   refine k_cutR (fun s6=>tokB l w t=true∧s6.st=[.box l.cs]∧Holds s6 [(1,.lst .ro 1 (zE p)),(2,.box 0 0),(5,.int .i64 l.slots.length),(6,.int .i64 R),(7,.int .i64 La),(8,.int .i64 i),(9,.int .i64 w)]) ?_ ?_
   ·refine zH _ _ hs5 hst5 fun fr5=>?_
    rcases hwt with ⟨ct,cw⟩|⟨ct,cw|cw⟩
    ·refine kQ ?_
     refine zB rfl (ku rfl (zB rfl (kg rfl (kH (by omega)) ?_)))
     refine kg rfl (kH (by omega)) ?_
     refine kg rfl (kH (by omega)) ?_
     refine kg rfl (kH (by omega)) ?_
     refine kg rfl (kH (by omega)) ?_
     refine yc rfl rfl (kH (by omega)) ?_
     refine zj [(1,.lst .ro 1 (zE p)),(2,U.box 0 0),(5,.int .i64 ↑(List.length (Ln.slots l))),(6,.int .i64 R),(7,.int .i64 La),(8,.int .i64 ↑i),(9,.int .i64 w),(10,.int .i64 t),(63,U.tup []),(64,U.tup []),(65,U.tup []),(66,U.tup []),(67,U.tup []),(68,.bool false)] [] ([SB.box (Ln.cs l)]) (.c4 rfl rfl rfl rfl (.n10 rfl)) rfl rfl fun fr=>?_
     refine zB rfl (kf rfl (zB rfl (kf rfl (ku rfl (kf rfl (zB rfl (kg rfl (kH (by omega)) ?_)))))))
     refine kg rfl (kH (by omega)) ?_
     refine kg rfl (kH (by omega)) ?_
     refine kg rfl (kH (by omega)) ?_
     refine kg rfl (kH (by omega)) ?_
     refine zj [(1,.lst .ro 1 (zE p)),(2,U.box 0 0),(5,.int .i64 ↑(List.length (Ln.slots l))),(6,.int .i64 R),(7,.int .i64 La),(8,.int .i64 ↑i),(9,.int .i64 w),(63,U.tup []),(64,U.tup []),(65,U.tup []),(66,U.tup []),(67,U.tup []),(69,.bool false),(70,.int .i64 w),(71,U.bool (decide (w=(1:Int)))),(72,U.bool (decide (w=(1:Int)))),(73,U.tup []),(74,U.tup []),(75,U.tup []),(76,U.tup []),(77,U.tup [])] [] ([SB.box (Ln.cs l)]) (.c4 rfl rfl rfl rfl (.c4 rfl rfl rfl rfl (.c4 rfl rfl rfl rfl (.n9 rfl)))) rfl rfl fun fr=>?_
     refine kf rfl ?_
     refine zj [(1,.lst .ro 1 (zE p)),(2,U.box 0 0),(5,.int .i64 ↑(List.length (Ln.slots l))),(6,.int .i64 R),(7,.int .i64 La),(8,.int .i64 ↑i),(9,.int .i64 w),(63,U.tup []),(64,U.tup []),(65,U.tup []),(66,U.tup []),(67,U.tup []),(69,.bool false),(70,.int .i64 w),(71,U.bool (decide (w=(1:Int)))),(72,U.bool (decide (w=(1:Int)))),(73,U.tup []),(74,U.tup []),(75,U.tup []),(76,U.tup []),(77,U.tup [])] [] ([SB.box (Ln.cs l)]) (.c4 rfl rfl rfl rfl (.c4 rfl rfl rfl rfl (.c4 rfl rfl rfl rfl (.n9 rfl)))) rfl rfl fun fr=>?_
     refine yc rfl rfl (kH (by omega)) ?_
     refine kE rfl ?_
     refine zA ?_
     refine zH [(1,.lst .ro 1 (zE p)),(2,U.box 0 0),(5,.int .i64 ↑(List.length (Ln.slots l))),(6,.int .i64 R),(7,.int .i64 La),(8,.int .i64 ↑i),(9,.int .i64 w),(63,U.tup []),(64,U.tup []),(65,U.tup []),(66,U.tup []),(67,U.tup []),(70,.int .i64 w),(71,U.bool (decide (w=(1:Int)))),(72,U.bool (decide (w=(1:Int)))),(73,U.tup []),(74,U.tup []),(75,U.tup []),(76,U.tup []),(77,U.tup []),(78,.bool false),(79,.bool false)] ([SB.box (Ln.cs l)]) (.c4 rfl rfl rfl rfl (.c4 rfl rfl rfl rfl (.c4 rfl rfl rfl rfl (.n10 rfl)))) rfl fun fr=>?_
     refine k_cF rfl rfl ?_
     refine zN ?_
     exact .inl ⟨rfl,(by rw[htk,kG cw,show decide (t= -1)=true from kG (by omega)];rfl),rfl,.c4 rfl rfl rfl rfl (.n3 rfl)⟩
    ·have qb:=ret50 (orc:=orc) hi (s:=l.left) (t:=t) (by omega) (by omega)
     have hs:zDV l w=l.left:=by rw[cw];rfl
     have htk:tokB l w t=bitI l.left t:=by rw[htk,hs,kG cw,show decide (t= -1)=false from kH (by omega),show decide (t≠ -1)=true from kG (by omega)];simp
     cases zb:bitI l.left t with
     |false=>
      rw[zb]at qb htk
      have hz:=hno fun hc=>by rw[(hck1.1 hc).1]at htk;cases htk
      subst hz
      refine kQ (zB rfl (ku rfl (zB rfl (kh rfl (kG (by omega)) ?_))))
      refine kz rfl yp (kh rfl (kG (by omega)) ?_)
      refine kB sh3 rfl (kh rfl (kG (by omega)) ?_)
      refine zB rfl (kh rfl (kG (by omega)) ?_)
      refine zP rfl (qb) (.lrefl _) (kh rfl (kG (by omega)) ?_)
      refine yj rfl rfl (zo rfl rfl (kG (by omega)) ?_)
      refine zj [(1,.lst .ro 1 (zE p)),(2,U.box 0 0),(5,.int .i64 ↑(List.length (Ln.slots l))),(6,.int .i64 R),(7,.int .i64 La),(8,.int .i64 ↑i),(9,.int .i64 w),(10,.int .i64 t),(63,U.box 0 1),(64,.int .i64 (Ln.left l)),(65,.int .i64 t),(66,.bool false),(67,U.bool !Bool.false),(68,U.bool !Bool.false)] [] ([SB.box (Ln.cs l)]) (.c4 rfl rfl rfl rfl (.n10 rfl)) rfl rfl fun fr=>?_
      refine zB rfl (ke rfl (ke rfl (ke rfl (zDY rfl rfl rfl rfl ?_))))
      refine zDY rfl rfl rfl rfl ?_
      refine zDY rfl rfl rfl rfl ?_
      refine zDY rfl rfl rfl rfl ?_
      refine zDY rfl rfl rfl rfl ?_
      refine zj [(1,.lst .ro 1 (zE p)),(2,U.box 0 0),(5,.int .i64 ↑(List.length (Ln.slots l))),(6,.int .i64 R),(7,.int .i64 La),(8,.int .i64 ↑i),(9,.int .i64 w),(63,U.box 0 1),(64,.int .i64 (Ln.left l)),(65,.int .i64 t),(66,.bool false),(67,U.bool !Bool.false),(69,U.bool !Bool.false),(70,U.tup []),(71,U.tup []),(72,U.tup []),(73,U.tup []),(74,U.tup []),(75,U.tup []),(76,U.tup []),(77,U.tup [])] [] ([SB.box (Ln.cs l)]) (.c4 rfl rfl rfl rfl (.c4 rfl rfl rfl rfl (.c4 rfl rfl rfl rfl (.n9 rfl)))) rfl rfl fun fr=>?_
      refine ke rfl (kF rfl ?_)
      refine zA ?_
      refine zH [(1,.lst .ro 1 (zE p)),(2,U.box 0 0),(5,.int .i64 ↑(List.length (Ln.slots l))),(6,.int .i64 R),(7,.int .i64 La),(8,.int .i64 ↑i),(9,.int .i64 w),(63,U.box 0 1),(64,.int .i64 (Ln.left l)),(65,.int .i64 t),(66,.bool false),(67,U.bool !Bool.false),(70,U.tup []),(71,U.tup []),(72,U.tup []),(73,U.tup []),(74,U.tup []),(75,U.tup []),(76,U.tup []),(77,U.tup []),(78,U.tup []),(79,.bool true)] ([SB.box (Ln.cs l)]) (.c4 rfl rfl rfl rfl (.c4 rfl rfl rfl rfl (.c4 rfl rfl rfl rfl (.n10 rfl)))) rfl fun fr=>?_
      refine k_cT rfl rfl ?_
      refine kQ (zC rfl (zA (za ?_)))
      exact .inr ⟨(fun e=>by cases e),.inr rfl,_,.cons _ _ _ _ (.tmp 4) .nil,.refl _⟩
     |true=>
      rw[zb]at qb htk
      refine kQ (zB rfl (ku rfl (zB rfl (kh rfl (kG (by omega)) ?_))))
      refine kz rfl yp (kh rfl (kG (by omega)) ?_)
      refine kB sh3 rfl (kh rfl (kG (by omega)) ?_)
      refine zB rfl (kh rfl (kG (by omega)) ?_)
      refine zP rfl (qb) (.lrefl _) (kh rfl (kG (by omega)) ?_)
      refine yj rfl rfl (zo rfl rfl (kG (by omega)) ?_)
      refine zj [(1,.lst .ro 1 (zE p)),(2,U.box 0 0),(5,.int .i64 ↑(List.length (Ln.slots l))),(6,.int .i64 R),(7,.int .i64 La),(8,.int .i64 ↑i),(9,.int .i64 w),(10,.int .i64 t),(63,U.box 0 1),(64,.int .i64 (Ln.left l)),(65,.int .i64 t),(66,.bool true),(67,U.bool !Bool.true),(68,U.bool !Bool.true)] [] ([SB.box (Ln.cs l)]) (.c4 rfl rfl rfl rfl (.n10 rfl)) rfl rfl fun fr=>?_
      refine zB rfl (kf rfl (zB rfl (kf rfl (ku rfl (kf rfl (zB rfl (kg rfl (kH (by omega)) ?_)))))))
      refine kg rfl (kH (by omega)) ?_
      refine kg rfl (kH (by omega)) ?_
      refine kg rfl (kH (by omega)) ?_
      refine kg rfl (kH (by omega)) ?_
      refine zj [(1,.lst .ro 1 (zE p)),(2,U.box 0 0),(5,.int .i64 ↑(List.length (Ln.slots l))),(6,.int .i64 R),(7,.int .i64 La),(8,.int .i64 ↑i),(9,.int .i64 w),(63,U.box 0 1),(64,.int .i64 (Ln.left l)),(65,.int .i64 t),(66,.bool true),(67,U.bool !Bool.true),(69,U.bool !Bool.true),(70,.int .i64 w),(71,U.bool (decide (w=(1:Int)))),(72,U.bool (decide (w=(1:Int)))),(73,U.tup []),(74,U.tup []),(75,U.tup []),(76,U.tup []),(77,U.tup [])] [] ([SB.box (Ln.cs l)]) (.c4 rfl rfl rfl rfl (.c4 rfl rfl rfl rfl (.c4 rfl rfl rfl rfl (.n9 rfl)))) rfl rfl fun fr=>?_
      refine kf rfl ?_
      refine zj [(1,.lst .ro 1 (zE p)),(2,U.box 0 0),(5,.int .i64 ↑(List.length (Ln.slots l))),(6,.int .i64 R),(7,.int .i64 La),(8,.int .i64 ↑i),(9,.int .i64 w),(63,U.box 0 1),(64,.int .i64 (Ln.left l)),(65,.int .i64 t),(66,.bool true),(67,U.bool !Bool.true),(69,U.bool !Bool.true),(70,.int .i64 w),(71,U.bool (decide (w=(1:Int)))),(72,U.bool (decide (w=(1:Int)))),(73,U.tup []),(74,U.tup []),(75,U.tup []),(76,U.tup []),(77,U.tup [])] [] ([SB.box (Ln.cs l)]) (.c4 rfl rfl rfl rfl (.c4 rfl rfl rfl rfl (.c4 rfl rfl rfl rfl (.n9 rfl)))) rfl rfl fun fr=>?_
      refine yc rfl rfl (kH (by omega)) ?_
      refine kE rfl ?_
      refine zA ?_
      refine zH [(1,.lst .ro 1 (zE p)),(2,U.box 0 0),(5,.int .i64 ↑(List.length (Ln.slots l))),(6,.int .i64 R),(7,.int .i64 La),(8,.int .i64 ↑i),(9,.int .i64 w),(63,U.box 0 1),(64,.int .i64 (Ln.left l)),(65,.int .i64 t),(66,.bool true),(67,U.bool !Bool.true),(70,.int .i64 w),(71,U.bool (decide (w=(1:Int)))),(72,U.bool (decide (w=(1:Int)))),(73,U.tup []),(74,U.tup []),(75,U.tup []),(76,U.tup []),(77,U.tup []),(78,.bool false),(79,.bool false)] ([SB.box (Ln.cs l)]) (.c4 rfl rfl rfl rfl (.c4 rfl rfl rfl rfl (.c4 rfl rfl rfl rfl (.n10 rfl)))) rfl fun fr=>?_
      refine k_cF rfl rfl ?_
      refine zN ?_
      exact .inl ⟨rfl,htk,rfl,.c4 rfl rfl rfl rfl (.n3 rfl)⟩
    ·have qb:=ret50 (orc:=orc) hi (s:=l.right) (t:=t) (by omega) (by omega)
     have hs:zDV l w=l.right:=by rw[cw];rfl
     have htk:tokB l w t=bitI l.right t:=by rw[htk,hs,kG cw,show decide (t= -1)=false from kH (by omega),show decide (t≠ -1)=true from kG (by omega)];simp
     cases zb:bitI l.right t with
     |false=>
      rw[zb]at qb htk
      have hz:=hno fun hc=>by rw[(hck1.1 hc).1]at htk;cases htk
      subst hz
      refine kQ (zB rfl (ku rfl (zB rfl (kg rfl (kH (by omega)) ?_))))
      refine kg rfl (kH (by omega)) ?_
      refine kg rfl (kH (by omega)) ?_
      refine kg rfl (kH (by omega)) ?_
      refine kg rfl (kH (by omega)) ?_
      refine yc rfl rfl (kH (by omega)) ?_
      refine zj [(1,.lst .ro 1 (zE p)),(2,U.box 0 0),(5,.int .i64 ↑(List.length (Ln.slots l))),(6,.int .i64 R),(7,.int .i64 La),(8,.int .i64 ↑i),(9,.int .i64 w),(10,.int .i64 t),(63,U.tup []),(64,U.tup []),(65,U.tup []),(66,U.tup []),(67,U.tup []),(68,.bool false)] [] ([SB.box (Ln.cs l)]) (.c4 rfl rfl rfl rfl (.n10 rfl)) rfl rfl fun fr=>?_
      refine zB rfl (kf rfl (zB rfl (kf rfl (ku rfl (kf rfl (zB rfl (kh rfl (kG (by omega)) ?_)))))))
      refine kz rfl wM (kh rfl (kG (by omega)) ?_)
      refine kB sh3 rfl (kh rfl (kG (by omega)) ?_)
      refine zB rfl (kh rfl (kG (by omega)) ?_)
      refine zP rfl (qb) (.lrefl _) (kh rfl (kG (by omega)) ?_)
      refine yj rfl rfl ?_
      refine zj [(1,.lst .ro 1 (zE p)),(2,U.box 0 0),(5,.int .i64 ↑(List.length (Ln.slots l))),(6,.int .i64 R),(7,.int .i64 La),(8,.int .i64 ↑i),(9,.int .i64 w),(63,U.tup []),(64,U.tup []),(65,U.tup []),(66,U.tup []),(67,U.tup []),(69,.bool false),(70,.int .i64 w),(71,U.bool (decide (w=(1:Int)))),(72,U.bool (decide (w=(1:Int)))),(73,U.box 0 2),(74,.int .i64 (Ln.right l)),(75,.int .i64 t),(76,.bool false),(77,U.bool !Bool.false)] [] ([SB.box (Ln.cs l)]) (.c4 rfl rfl rfl rfl (.c4 rfl rfl rfl rfl (.c4 rfl rfl rfl rfl (.n9 rfl)))) rfl rfl fun fr=>?_
      refine kf rfl ?_
      refine zj [(1,.lst .ro 1 (zE p)),(2,U.box 0 0),(5,.int .i64 ↑(List.length (Ln.slots l))),(6,.int .i64 R),(7,.int .i64 La),(8,.int .i64 ↑i),(9,.int .i64 w),(63,U.tup []),(64,U.tup []),(65,U.tup []),(66,U.tup []),(67,U.tup []),(69,.bool false),(70,.int .i64 w),(71,U.bool (decide (w=(1:Int)))),(72,U.bool (decide (w=(1:Int)))),(73,U.box 0 2),(74,.int .i64 (Ln.right l)),(75,.int .i64 t),(76,.bool false),(77,U.bool !Bool.false)] [] ([SB.box (Ln.cs l)]) (.c4 rfl rfl rfl rfl (.c4 rfl rfl rfl rfl (.c4 rfl rfl rfl rfl (.n9 rfl)))) rfl rfl fun fr=>?_
      refine zo rfl rfl (kG (by omega)) ?_
      refine kE rfl ?_
      refine zA ?_
      refine zH [(1,.lst .ro 1 (zE p)),(2,U.box 0 0),(5,.int .i64 ↑(List.length (Ln.slots l))),(6,.int .i64 R),(7,.int .i64 La),(8,.int .i64 ↑i),(9,.int .i64 w),(63,U.tup []),(64,U.tup []),(65,U.tup []),(66,U.tup []),(67,U.tup []),(70,.int .i64 w),(71,U.bool (decide (w=(1:Int)))),(72,U.bool (decide (w=(1:Int)))),(73,U.box 0 2),(74,.int .i64 (Ln.right l)),(75,.int .i64 t),(76,.bool false),(77,U.bool !Bool.false),(78,U.bool !Bool.false),(79,U.bool !Bool.false)] ([SB.box (Ln.cs l)]) (.c4 rfl rfl rfl rfl (.c4 rfl rfl rfl rfl (.c4 rfl rfl rfl rfl (.n10 rfl)))) rfl fun fr=>?_
      refine k_cT rfl rfl ?_
      refine kQ (zC rfl (zA (za ?_)))
      exact .inr ⟨(fun e=>by cases e),.inr rfl,_,.cons _ _ _ _ (.tmp 4) .nil,.refl _⟩
     |true=>
      rw[zb]at qb htk
      refine kQ (zB rfl (ku rfl (zB rfl (kg rfl (kH (by omega)) ?_))))
      refine kg rfl (kH (by omega)) ?_
      refine kg rfl (kH (by omega)) ?_
      refine kg rfl (kH (by omega)) ?_
      refine kg rfl (kH (by omega)) ?_
      refine yc rfl rfl (kH (by omega)) ?_
      refine zj [(1,.lst .ro 1 (zE p)),(2,U.box 0 0),(5,.int .i64 ↑(List.length (Ln.slots l))),(6,.int .i64 R),(7,.int .i64 La),(8,.int .i64 ↑i),(9,.int .i64 w),(10,.int .i64 t),(63,U.tup []),(64,U.tup []),(65,U.tup []),(66,U.tup []),(67,U.tup []),(68,.bool false)] [] ([SB.box (Ln.cs l)]) (.c4 rfl rfl rfl rfl (.n10 rfl)) rfl rfl fun fr=>?_
      refine zB rfl (kf rfl (zB rfl (kf rfl (ku rfl (kf rfl (zB rfl (kh rfl (kG (by omega)) ?_)))))))
      refine kz rfl wM (kh rfl (kG (by omega)) ?_)
      refine kB sh3 rfl (kh rfl (kG (by omega)) ?_)
      refine zB rfl (kh rfl (kG (by omega)) ?_)
      refine zP rfl (qb) (.lrefl _) (kh rfl (kG (by omega)) ?_)
      refine yj rfl rfl ?_
      refine zj [(1,.lst .ro 1 (zE p)),(2,U.box 0 0),(5,.int .i64 ↑(List.length (Ln.slots l))),(6,.int .i64 R),(7,.int .i64 La),(8,.int .i64 ↑i),(9,.int .i64 w),(63,U.tup []),(64,U.tup []),(65,U.tup []),(66,U.tup []),(67,U.tup []),(69,.bool false),(70,.int .i64 w),(71,U.bool (decide (w=(1:Int)))),(72,U.bool (decide (w=(1:Int)))),(73,U.box 0 2),(74,.int .i64 (Ln.right l)),(75,.int .i64 t),(76,.bool true),(77,U.bool !Bool.true)] [] ([SB.box (Ln.cs l)]) (.c4 rfl rfl rfl rfl (.c4 rfl rfl rfl rfl (.c4 rfl rfl rfl rfl (.n9 rfl)))) rfl rfl fun fr=>?_
      refine kf rfl ?_
      refine zj [(1,.lst .ro 1 (zE p)),(2,U.box 0 0),(5,.int .i64 ↑(List.length (Ln.slots l))),(6,.int .i64 R),(7,.int .i64 La),(8,.int .i64 ↑i),(9,.int .i64 w),(63,U.tup []),(64,U.tup []),(65,U.tup []),(66,U.tup []),(67,U.tup []),(69,.bool false),(70,.int .i64 w),(71,U.bool (decide (w=(1:Int)))),(72,U.bool (decide (w=(1:Int)))),(73,U.box 0 2),(74,.int .i64 (Ln.right l)),(75,.int .i64 t),(76,.bool true),(77,U.bool !Bool.true)] [] ([SB.box (Ln.cs l)]) (.c4 rfl rfl rfl rfl (.c4 rfl rfl rfl rfl (.c4 rfl rfl rfl rfl (.n9 rfl)))) rfl rfl fun fr=>?_
      refine zo rfl rfl (kG (by omega)) ?_
      refine kE rfl ?_
      refine zA ?_
      refine zH [(1,.lst .ro 1 (zE p)),(2,U.box 0 0),(5,.int .i64 ↑(List.length (Ln.slots l))),(6,.int .i64 R),(7,.int .i64 La),(8,.int .i64 ↑i),(9,.int .i64 w),(63,U.tup []),(64,U.tup []),(65,U.tup []),(66,U.tup []),(67,U.tup []),(70,.int .i64 w),(71,U.bool (decide (w=(1:Int)))),(72,U.bool (decide (w=(1:Int)))),(73,U.box 0 2),(74,.int .i64 (Ln.right l)),(75,.int .i64 t),(76,.bool true),(77,U.bool !Bool.true),(78,U.bool !Bool.true),(79,U.bool !Bool.true)] ([SB.box (Ln.cs l)]) (.c4 rfl rfl rfl rfl (.c4 rfl rfl rfl rfl (.c4 rfl rfl rfl rfl (.n10 rfl)))) rfl fun fr=>?_
      refine k_cF rfl rfl ?_
      refine zN ?_
      exact .inl ⟨rfl,htk,rfl,.c4 rfl rfl rfl rfl (.n3 rfl)⟩
   rintro s6 ⟨htt,hst6,hs6⟩
   clear hwt hst5 hs5
   refine k_cut (fun s7=>s7.st=[.box l.cs]∧Holds s7 [(1,.lst .ro 1 (zE p)),(2,.box 0 0),(5,.int .i64 l.slots.length),(6,.int .i64 K),(7,.int .i64 La),(8,.int .i64 i),(9,.int .i64 w)]) ?_ ?_
   ·refine zH _ _ hs6 hst6 fun fr6=>?_
    by_cases cl:w=La
    ·by_cases cz:0≤w
     ·have hK:=s1 ⟨cl,cz⟩
      refine kQ (zB rfl (zB rfl (ku rfl (zB rfl (kh rfl (kG (by omega)) ?_)))))
      refine zB rfl (kh rfl (kG (by omega)) ?_)
      refine zBj rfl rfl rfl (zo rfl rfl (kG (by omega)) ?_)
      refine zA (k_cT rfl (kG (by omega)) (k_region (zB rfl ?_)))
      refine kA rfl (by unfold I64;omega) (zC rfl (zA ?_))
      exact⟨rfl,rfl,.cons rfl (.cons rfl (.cons rfl (.cons (by show U.int .i64 _=U.int .i64 _;congr 1;omega) (.n3 rfl))))⟩
     ·have hK:=s2' (by omega)
      refine kQ (zB rfl (zB rfl (ku rfl (zB rfl (kh rfl (kG (by omega)) ?_)))))
      refine zB rfl (kh rfl (kG (by omega)) ?_)
      refine zBj rfl rfl rfl (zo rfl rfl (kG (by omega)) ?_)
      refine zA (k_cF rfl (kH (by omega)) (k_region (zC rfl (zA ?_))))
      exact⟨rfl,rfl,.cons rfl (.cons rfl (.cons rfl (.cons (by show U.int .i64 _=U.int .i64 _;congr 1;omega) (.n3 rfl))))⟩
    ·have hK:=s2' (by omega)
     refine kQ (zB rfl (zB rfl (ku rfl (zB rfl (kg rfl (kH (by omega)) ?_)))))
     refine kg rfl (kH (by omega)) ?_
     refine yc rfl rfl (kH (by omega)) ?_
     refine zA (k_cF rfl rfl ?_)
     refine k_region (zC rfl (zA ?_))
     exact⟨rfl,rfl,.cons rfl (.cons rfl (.cons rfl (.cons (by show U.int .i64 _=U.int .i64 _;congr 1;omega) (.n3 rfl))))⟩
   rintro s7 ⟨hst7,hs7⟩
   clear hst6 hs6
   by_cases cz:0≤w
   ·by_cases cr:(K:Int)≤l.run
    ·refine zH _ _ hs7 hst7 fun fr7=>?_
     refine kQ (zB rfl (zC rfl (zA (kQ (zB rfl (zBj rfl rfl rfl (zB rfl (kh rfl (kG (by omega)) ?_))))))))
     refine zB rfl (kh rfl (kG (by omega)) ?_)
     refine kz rfl wu (kh rfl (kG (by omega)) ?_)
     refine kB sh3 rfl (kh rfl (kG (by omega)) ?_)
     refine o_gtr rfl rfl rfl (zo rfl rfl (kG (by omega)) ?_)
     refine zA (k_cF rfl (kH (by omega)) (zN (k_region (zB rfl ?_))))
     refine kA rfl (by unfold I64;omega) (zC rfl (zA ?_))
     exact⟨kk - 1,by omega,i+1,by omega,hnx (hck1.2 ⟨htt,fun h=>by omega⟩),rfl,.cons rfl (.cons rfl (.cons rfl (.cons (by rw[hru];rfl) (.cons (by rw[hla];rfl) (.n1 rfl)))))⟩
    ·have hz:=hno fun hc=>by have:=(hck1.1 hc).2 (by omega);omega
     subst hz
     refine zH _ _ hs7 hst7 fun fr7=>?_
     refine kQ (zB rfl (zC rfl (zA (kQ (zB rfl (zBj rfl rfl rfl (zB rfl (kh rfl (kG (by omega)) ?_))))))))
     refine zB rfl (kh rfl (kG (by omega)) ?_)
     refine kz rfl wu (kh rfl (kG (by omega)) ?_)
     refine kB sh3 rfl (kh rfl (kG (by omega)) ?_)
     refine o_gtr rfl rfl rfl (zo rfl rfl (kG (by omega)) ?_)
     refine zA (k_cT rfl (kG (by omega)) (kQ (zC rfl (zA (za ?_)))))
     refine⟨.inr rfl,_,.cons _ _ _ _ (.tmp 4) .nil,?_⟩
     exact .refl _
   ·refine zH _ _ hs7 hst7 fun fr7=>?_
    refine kQ (zB rfl (zC rfl (zA (kQ (zB rfl (zBj rfl rfl rfl (zB rfl (kg rfl (kH (by omega)) ?_))))))))
    refine kg rfl (kH (by omega)) ?_
    refine kg rfl (kH (by omega)) ?_
    refine kg rfl (kH (by omega)) ?_
    refine yc rfl rfl (kH (by omega)) ?_
    refine zA (k_cF rfl rfl ?_)
    refine zN (k_region (zB rfl ?_))
    refine kA rfl (by unfold I64;omega) (zC rfl (zA ?_))
    exact⟨kk - 1,by omega,i+1,by omega,hnx (hck1.2 ⟨htt,fun h=>by omega⟩),rfl,.cons rfl (.cons rfl (.cons rfl (.cons (by rw[hru];rfl) (.cons (by rw[hla];rfl) (.n1 rfl)))))⟩
  ·have hie:i=cntN l:=by omega
   have k26:decide ((i:Int)<(l.slots.length:Int)*(2+l.run.tdiv l.slots.length))=false:=by rw[hNe];exact kH (by omega)
   have hz:z=true:=hck.2 fun j hj=>hall j (by omega)
   subst hz
   refine zH _ _ hs2 hst2 fun fr2=>?_
   refine k_seq (kQ (zB rfl (zB rfl (kz rfl wu (kB sh3 rfl (zB rfl ?_))))))
   refine o_quo rfl rfl rfl (by omega) (by unfold I64;omega) ?_
   refine kA rfl (by unfold I64;omega) ?_
   refine o_mul rfl rfl rfl (by unfold I64;omega) ?_
   refine kq rfl (zA (k_cF rfl (by assumption) (yD (kQ (zC rfl (zA (za ?_)))))))
   refine⟨.inr rfl,_,.cons _ _ _ _ (.tmp 4) .nil,?_⟩
   exact .refl _
 ·have hz:divB l p=false:=by
   cases hz:divB l p with
   |false=>rfl
   |true=>exact absurd (zBo.1 hz).1 hp
  rw[hz]
  refine kQ (yK rfl rfl (zC rfl (zA ?_)))
  refine zH [(1,.lst .ro 1 (zE p)),(2,U.box 0 0)] ([SB.box [.lst .ro 1 (zE (Ln.slots l)),.int .i64 (Ln.left l),.int .i64 (Ln.right l),.int .i64 (Ln.run l)]]) (.n2 rfl) rfl fun fr=>?_
  refine kQ (kz rfl zQ (kB sh22 rfl (yG rfl ty22 rfl (List.length_map _) ?_)))
  refine zC rfl (zA (k_seq (kQ (zB rfl (yG rfl ty22 rfl (List.length_map _) ?_)))))
  refine zB rfl (ks rfl (zA (k_cT rfl (kG (by omega)) (kQ (zC rfl (zA (za ?_)))))))
  refine⟨.inr rfl,_,.cons _ _ _ _ (.tmp 4) .nil,?_⟩
  exact .refl _
end Go.Proofs.YthhbfbmfhldbaaaDoor.locks
