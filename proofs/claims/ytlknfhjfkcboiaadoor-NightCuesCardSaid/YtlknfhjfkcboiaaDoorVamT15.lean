import Derived.Test.YtlknfhjfkcboiaaDoorVamT14
set_option linter.unusedVariables false
set_option linter.unusedSimpArgs false
set_option linter.constructorNameAsVariable false
namespace Go.Proofs.YtlknfhjfkcboiaaDoor.night
open Vam
variable {is:FuncId→Bool}{orc:Known}{b:Bk}
noncomputable def b64:Code:=(Tryd.f64.body).getD .skip
theorem body64:bodyOf Tryd.prog 64=some (109,b64,[.tmp 4,.tmp 5]):=by kernel_rfl
theorem pure64:pureFn Tryd.prog 64=true:=by kernel_rfl
set_option maxHeartbeats 8000000 in
theorem ret59(hi:Off is)(h:BOk b){d L:List Int}(hd:DOk b d){s:Nat}(hs:s≤1000000)(hL:∀i,i<b.scenes.length→((i:Int)∈L↔bt s i=true)):RetP Tryd.prog is orc 59 [b.u,.int .i64 s,.lst .ro 1 (zE d)] (.bool (fitB b d L)):=by
 have q54:=ret54 (orc:=orc) hi h hd hs hL
 have hen:=h.en
 obtain⟨o0,ho0⟩:∃x,b.ends[0]? =some x:=⟨b.ends[0],List.getElem?_eq_getElem (by omega)⟩
 obtain⟨o1,ho1⟩:∃x,b.ends[1]? =some x:=⟨b.ends[1],List.getElem?_eq_getElem (by omega)⟩
 obtain⟨o2,ho2⟩:∃x,b.ends[2]? =some x:=⟨b.ends[2],List.getElem?_eq_getElem (by omega)⟩
 have hf:fitB b d L=(decide (clS b d L true 1≤o0)&&(decide (clS b d L true 2≤o1)&&decide (clS b d L true 3≤o2))):=by
  have k:∀x y:Int,decide (max 0 (x - y)=0)=decide (x≤y):=fun x y=>decide_eq_decide.2 (by omega)
  unfold fitB dlI
  rw[k,k,k,ho0,ho1,ho2];rfl
 rw[hf]
 unfold spL at q54
 generalize clS b d L false 1=A1 at*
 generalize clS b d L false 2=A2 at*
 generalize clS b d L false 3=A3 at*
 generalize clS b d L true 1=C1 at*
 generalize clS b d L true 2=C2 at*
 generalize clS b d L true 3=C3 at*
 have q54:RetP Tryd.prog is orc 54 [b.u,.int .i64 s,.lst .ro 1 (zE d)] (.lst .ro 2 [wQ A1 C1,wQ A2 C2,wQ A3 C3]):=q54
 refine zp body59 pure59 (hi 59 (by decide)) rfl rfl (zCr (wU b 4) (.int _ _ _) (zR 6 .ro (fun h=>by cases h) 1 d)) (.inl (.bool _ _)) ?_
 by_cases c1:C1≤o0
 ·rw[kH c1,Bool.true_and]
  by_cases c2:C2≤o1
  ·rw[kH c2,Bool.true_and]
   refine kQ (yB rfl rfl (zB rfl (zC ?_)))
   refine zF [(1,.int .i64 ↑s),(2,.lst .ro 1 (zE d)),(3,U.box 0 0)] ([SB.box (Bk.cs b)]) (.n3 rfl) rfl fun fr=>?_
   refine kQ (kD sh25 rfl (zA rfl (zA rfl (zG rfl (q54) (.lrefl _) (zB rfl (zC (k_seq (wH [.plain,.plain,.plain,.read true,.plain,.read true,.plain,.read true,.plain,.plain,.plain,.plain,.plain,.read true,.plain,.read true,.plain,.read true,.plain,.plain,.plain,.plain,.plain,.plain,.read true,.plain,.read true,.plain,.read true,.plain,.plain,.plain] (by kernel_rfl) (by kernel_rfl) (by kernel_rfl) ?_))))))))
   refine zD (zA rfl (zC rfl)) (zD (zX rfl ty26 rfl rfl (by decide) rfl cl48 (zC rfl)) ?_)
   refine zD (yV rfl rfl ym (zC rfl)) ?_
   refine zV rfl (kE sh3 rfl (zC rfl)) ?_
   refine zD (kA rfl zAC (zC rfl)) ?_
   refine zV rfl (kC sh22 rfl (zC rfl)) (zD (zX (u:=.int .i64 (o0)) rfl ty22 rfl rfl (Int.natCast_nonneg _) (by simp[ho0]) cl3 (zC rfl)) ?_)
   refine zV rfl (kE sh3 rfl (zC rfl)) ?_
   refine zD (ks rfl (zC rfl)) ?_
   refine yY [(3,U.box 0 0),(7,.lst .ro 2 [wQ A1 C1,wQ A2 C2,wQ A3 C3]),(20,U.bool (decide (C1≤o0)))] [] ([SB.box (Bk.cs b)]) (.n3 rfl) rfl rfl fun fr=>?_
   refine zD (zA rfl (zC rfl)) (kn rfl (kH (by omega)) ?_)
   refine zD (zA rfl (zC rfl)) (kn rfl (kH (by omega)) ?_)
   refine zD (zX rfl ty26 rfl rfl (by decide) rfl cl48 (zC rfl)) ?_
   refine kn rfl (kH (by omega)) ?_
   refine zD (yV rfl rfl ym (zC rfl)) ?_
   refine kn rfl (kH (by omega)) ?_
   refine zV rfl (kE sh3 rfl (zC rfl)) ?_
   refine kn rfl (kH (by omega)) ?_
   refine zD (kA rfl zAC (zC rfl)) ?_
   refine kn rfl (kH (by omega)) ?_
   refine zV rfl (kC sh22 rfl (zC rfl)) (kn rfl (kH (by omega)) ?_)
   refine zD (zX (u:=.int .i64 (o1)) rfl ty22 rfl rfl (Int.natCast_nonneg _) (by simp[ho1]) cl3 (zC rfl)) ?_
   refine kn rfl (kH (by omega)) ?_
   refine zV rfl (kE sh3 rfl (zC rfl)) ?_
   refine yY [(3,U.box 0 0),(7,.lst .ro 2 [wQ A1 C1,wQ A2 C2,wQ A3 C3]),(21,U.bool (decide (C1≤o0))),(25,.int .i64 C2),(29,.int .i64 o1)] [] ([SB.box (Bk.cs b)]) (.n5 rfl) rfl rfl fun fr=>?_
   refine kn rfl (kH (by omega)) ?_
   refine yY [(3,U.box 0 0),(7,.lst .ro 2 [wQ A1 C1,wQ A2 C2,wQ A3 C3]),(21,U.bool (decide (C1≤o0))),(25,.int .i64 C2),(29,.int .i64 o1)] [] ([SB.box (Bk.cs b)]) (.n5 rfl) rfl rfl fun fr=>?_
   refine zD (ks rfl (zC rfl)) ?_
   refine zD (zc rfl rfl (kH (by omega)) (zC rfl)) ?_
   refine zD (zA rfl (zC rfl)) (kn rfl (kH (by omega)) ?_)
   refine zD (zA rfl (zC rfl)) (kn rfl (kH (by omega)) ?_)
   refine zD (zX rfl ty26 rfl rfl (by decide) rfl cl48 (zC rfl)) ?_
   refine kn rfl (kH (by omega)) ?_
   refine zD (yV rfl rfl ym (zC rfl)) ?_
   refine kn rfl (kH (by omega)) ?_
   refine zV rfl (kE sh3 rfl (zC rfl)) ?_
   refine kn rfl (kH (by omega)) ?_
   refine zD (kA rfl zAC (zC rfl)) ?_
   refine kn rfl (kH (by omega)) ?_
   refine zV rfl (kC sh22 rfl (zC rfl)) ?_
   refine yY [(32,U.bool (decide (C2≤o1))),(36,.int .i64 C3),(38,.lst .ro 1 (zE (Bk.ends b)))] [] ([SB.box (Bk.cs b)]) (.n3 rfl) rfl rfl fun fr=>?_
   refine kn rfl (kH (by omega)) ?_
   refine yY [(32,U.bool (decide (C2≤o1))),(36,.int .i64 C3),(38,.lst .ro 1 (zE (Bk.ends b)))] [] ([SB.box (Bk.cs b)]) (.n3 rfl) rfl rfl fun fr=>?_
   refine zD (zX (u:=.int .i64 (o2)) rfl ty22 rfl rfl (Int.natCast_nonneg _) (by simp[ho2]) cl3 (zC rfl)) ?_
   refine kn rfl (kH (by omega)) ?_
   refine zV rfl (kE sh3 rfl (zC rfl)) ?_
   refine kn rfl (kH (by omega)) ?_
   refine zD (ks rfl (zC rfl)) ?_
   refine zD (zc rfl rfl (kH (by omega)) (zC rfl)) ?_
   refine zD (zB rfl (zC rfl)) ?_
   refine zAo ?_
   refine zS ?_
   refine⟨.inr rfl,_,.cons _ _ _ _ (.tmp 6) .nil,?_⟩
   exact .refl _
  ·rw[kI c2,Bool.false_and]
   refine kQ (yB rfl rfl (zB rfl (zC ?_)))
   refine zF [(1,.int .i64 ↑s),(2,.lst .ro 1 (zE d)),(3,U.box 0 0)] ([SB.box (Bk.cs b)]) (.n3 rfl) rfl fun fr=>?_
   refine kQ (kD sh25 rfl (zA rfl (zA rfl (zG rfl (q54) (.lrefl _) (zB rfl (zC (k_seq (wH [.plain,.plain,.plain,.read true,.plain,.read true,.plain,.read true,.plain,.plain,.plain,.plain,.plain,.read true,.plain,.read true,.plain,.read true,.plain,.plain,.plain,.plain,.plain,.plain,.read true,.plain,.read true,.plain,.read true,.plain,.plain,.plain] (by kernel_rfl) (by kernel_rfl) (by kernel_rfl) ?_))))))))
   refine zD (zA rfl (zC rfl)) (zD (zX rfl ty26 rfl rfl (by decide) rfl cl48 (zC rfl)) ?_)
   refine zD (yV rfl rfl ym (zC rfl)) ?_
   refine zV rfl (kE sh3 rfl (zC rfl)) ?_
   refine zD (kA rfl zAC (zC rfl)) ?_
   refine zV rfl (kC sh22 rfl (zC rfl)) (zD (zX (u:=.int .i64 (o0)) rfl ty22 rfl rfl (Int.natCast_nonneg _) (by simp[ho0]) cl3 (zC rfl)) ?_)
   refine zV rfl (kE sh3 rfl (zC rfl)) ?_
   refine zD (ks rfl (zC rfl)) ?_
   refine yY [(3,U.box 0 0),(7,.lst .ro 2 [wQ A1 C1,wQ A2 C2,wQ A3 C3]),(20,U.bool (decide (C1≤o0)))] [] ([SB.box (Bk.cs b)]) (.n3 rfl) rfl rfl fun fr=>?_
   refine zD (zA rfl (zC rfl)) (kn rfl (kH (by omega)) ?_)
   refine zD (zA rfl (zC rfl)) (kn rfl (kH (by omega)) ?_)
   refine zD (zX rfl ty26 rfl rfl (by decide) rfl cl48 (zC rfl)) ?_
   refine kn rfl (kH (by omega)) ?_
   refine zD (yV rfl rfl ym (zC rfl)) ?_
   refine kn rfl (kH (by omega)) ?_
   refine zV rfl (kE sh3 rfl (zC rfl)) ?_
   refine kn rfl (kH (by omega)) ?_
   refine zD (kA rfl zAC (zC rfl)) ?_
   refine kn rfl (kH (by omega)) ?_
   refine zV rfl (kC sh22 rfl (zC rfl)) (kn rfl (kH (by omega)) ?_)
   refine zD (zX (u:=.int .i64 (o1)) rfl ty22 rfl rfl (Int.natCast_nonneg _) (by simp[ho1]) cl3 (zC rfl)) ?_
   refine kn rfl (kH (by omega)) ?_
   refine zV rfl (kE sh3 rfl (zC rfl)) ?_
   refine yY [(3,U.box 0 0),(7,.lst .ro 2 [wQ A1 C1,wQ A2 C2,wQ A3 C3]),(21,U.bool (decide (C1≤o0))),(25,.int .i64 C2),(29,.int .i64 o1)] [] ([SB.box (Bk.cs b)]) (.n5 rfl) rfl rfl fun fr=>?_
   refine kn rfl (kH (by omega)) ?_
   refine yY [(3,U.box 0 0),(7,.lst .ro 2 [wQ A1 C1,wQ A2 C2,wQ A3 C3]),(21,U.bool (decide (C1≤o0))),(25,.int .i64 C2),(29,.int .i64 o1)] [] ([SB.box (Bk.cs b)]) (.n5 rfl) rfl rfl fun fr=>?_
   refine zD (ks rfl (zC rfl)) ?_
   refine zD (zc rfl rfl (kH (by omega)) (zC rfl)) ?_
   refine zD (zA rfl (zC rfl)) (km rfl (kI (by omega)) ?_)
   refine km rfl (kI (by omega)) ?_
   refine km rfl (kI (by omega)) ?_
   refine km rfl (kI (by omega)) ?_
   refine km rfl (kI (by omega)) ?_
   refine km rfl (kI (by omega)) ?_
   refine yY [(32,U.bool (decide (C2≤o1)))] [] ([SB.box (Bk.cs b)]) (.n1 rfl) rfl rfl fun fr=>?_
   refine km rfl (kI (by omega)) ?_
   refine km rfl (kI (by omega)) ?_
   refine km rfl (kI (by omega)) ?_
   refine zD (zW rfl rfl (kI (by omega)) (zC rfl)) ?_
   refine zD (zB rfl (zC rfl)) ?_
   refine zAo ?_
   refine zS ?_
   refine⟨.inr rfl,_,.cons _ _ _ _ (.tmp 6) .nil,?_⟩
   exact .refl _
 ·rw[kI c1,Bool.false_and]
  refine kQ (yB rfl rfl (zB rfl (zC ?_)))
  refine zF [(1,.int .i64 ↑s),(2,.lst .ro 1 (zE d)),(3,U.box 0 0)] ([SB.box (Bk.cs b)]) (.n3 rfl) rfl fun fr=>?_
  refine kQ (kD sh25 rfl (zA rfl (zA rfl (zG rfl (q54) (.lrefl _) (zB rfl (zC (k_seq (wH [.plain,.plain,.plain,.read true,.plain,.read true,.plain,.read true,.plain,.plain,.plain,.plain,.plain,.read true,.plain,.read true,.plain,.read true,.plain,.plain,.plain,.plain,.plain,.plain,.read true,.plain,.read true,.plain,.read true,.plain,.plain,.plain] (by kernel_rfl) (by kernel_rfl) (by kernel_rfl) ?_))))))))
  refine zD (zA rfl (zC rfl)) (zD (zX rfl ty26 rfl rfl (by decide) rfl cl48 (zC rfl)) ?_)
  refine zD (yV rfl rfl ym (zC rfl)) ?_
  refine zV rfl (kE sh3 rfl (zC rfl)) ?_
  refine zD (kA rfl zAC (zC rfl)) ?_
  refine zV rfl (kC sh22 rfl (zC rfl)) (zD (zX (u:=.int .i64 (o0)) rfl ty22 rfl rfl (Int.natCast_nonneg _) (by simp[ho0]) cl3 (zC rfl)) ?_)
  refine zV rfl (kE sh3 rfl (zC rfl)) ?_
  refine zD (ks rfl (zC rfl)) ?_
  refine yY [(3,U.box 0 0),(7,.lst .ro 2 [wQ A1 C1,wQ A2 C2,wQ A3 C3]),(20,U.bool (decide (C1≤o0)))] [] ([SB.box (Bk.cs b)]) (.n3 rfl) rfl rfl fun fr=>?_
  refine zD (zA rfl (zC rfl)) (km rfl (kI (by omega)) ?_)
  refine km rfl (kI (by omega)) ?_
  refine km rfl (kI (by omega)) ?_
  refine km rfl (kI (by omega)) ?_
  refine km rfl (kI (by omega)) ?_
  refine km rfl (kI (by omega)) ?_
  refine km rfl (kI (by omega)) ?_
  refine km rfl (kI (by omega)) ?_
  refine yY [(3,U.box 0 0),(7,.lst .ro 2 [wQ A1 C1,wQ A2 C2,wQ A3 C3]),(21,U.bool (decide (C1≤o0)))] [] ([SB.box (Bk.cs b)]) (.n3 rfl) rfl rfl fun fr=>?_
  refine km rfl (kI (by omega)) ?_
  refine zD (zW rfl rfl (kI (by omega)) (zC rfl)) ?_
  refine zD (zA rfl (zC rfl)) (kj rfl (kj rfl (kj rfl (kj rfl (kj rfl (kj rfl ?_))))))
  refine yY [(32,.bool false)] [] ([SB.box (Bk.cs b)]) (.n1 rfl) rfl rfl fun fr=>?_
  refine kj rfl (kj rfl (kj rfl (zD (kF rfl (zC rfl)) ?_)))
  refine zD (zB rfl (zC rfl)) ?_
  refine zAo ?_
  refine zS ?_
  refine⟨.inr rfl,_,.cons _ _ _ _ (.tmp 6) .nil,?_⟩
  exact .refl _
theorem soon_pre(r s:List Int):∀A:List Int,zAf (A++r) (A++s)=zAf r s:=by
 intro A
 induction A with
 |nil=>rfl
 |cons x A ih=>show(if x≠x then _ else zAf (A++r) (A++s))=_;rw[if_neg (by simp),ih]
theorem lt_pre(A r s:List Int):ltB (wt b) (A++r) (A++s)=ltB (wt b) r s:=by
 unfold ltB
 rw[wt_app,wt_app,soon_pre,List.length_append,List.length_append]
 have e1:decide (wt b A+wt b r<wt b A+wt b s)=decide (wt b r<wt b s):=decide_eq_decide.2 (by omega)
 have e2:decide (wt b A+wt b r=wt b A+wt b s)=decide (wt b r=wt b s):=decide_eq_decide.2 (by omega)
 have e3:decide (A.length+r.length<A.length+s.length)=decide (r.length<s.length):=decide_eq_decide.2 (by omega)
 have e4:decide (A.length+r.length=A.length+s.length)=decide (r.length=s.length):=decide_eq_decide.2 (by omega)
 rw[e1,e2,e3,e4]
theorem bst_pre(A:List Int):∀l:List (List Int),bstO (wt b) (l.map fun r=>A++r)=(bstO (wt b) l).map fun r=>A++r:=by
 intro l
 have key:∀(l:List (List Int)) (o:Option (List Int)),(l.map fun r=>A++r).foldl (bstS (wt b)) (o.map fun r=>A++r)=(l.foldl (bstS (wt b)) o).map fun r=>A++r:=by
  intro l
  induction l with
  |nil=>intro o;rfl
  |cons x l ih=>
   intro o
   rw[List.map_cons,List.foldl_cons,List.foldl_cons,←ih]
   congr 1
   cases o with
   |none=>rfl
   |some m=>
    show(if ltB (wt b) (A++x) (A++m)=true then some (A++x)else some (A++m))=_
    rw[lt_pre]
    show _=Option.map _ (if ltB (wt b) x m=true then some x else some m)
    split<;>rfl
 exact key l none
def fxN(d:List Int):Nat→Nat
 |0=>0
 |i+1=>fxN d i+if zBL d i=true then 2 ^ i else 0
theorem fxN_lt(d:List Int):∀i,fxN d i<2 ^ i:=by
 intro i
 induction i with
 |zero=>exact Nat.one_pos
 |succ i ih=>unfold fxN;rw[Nat.pow_succ];split<;>omega
theorem fxN_bit(d:List Int){j:Nat}:∀{i:Nat},j<i→(fxN d i).testBit j=zBL d j:=by
 intro i
 induction i with
 |zero=>intro h;omega
 |succ i ih=>
  intro hj
  have hlt:=fxN_lt d i
  unfold fxN
  by_cases e:j=i
  ·subst e
   split
   ·rename_i hp
    rw[Nat.add_comm,Nat.testBit_two_pow_add_eq,Nat.testBit_lt_two_pow hlt,hp];rfl
   ·rename_i hp
    rw[Nat.add_zero,Nat.testBit_lt_two_pow hlt]
    cases h:zBL d j with
    |false=>rfl
    |true=>exact absurd h hp
  ·split
   ·rw[Nat.add_comm,Nat.testBit_two_pow_add_gt (by omega)];exact ih (by omega)
   ·rw[Nat.add_zero];exact ih (by omega)
def fixB(d:List Int)(s:Nat):Bool:=decide (s % 2 ^ d.length=fxN d d.length)
theorem fix_iff{d:List Int}{s:Nat}:fixB d s=true↔ ∀i,i<d.length→bt s i=zBL d i:=by
 unfold fixB
 rw[decide_eq_true_eq]
 constructor
 ·intro h i hi
  have h1:=fxN_bit d hi
  rw[←h,Nat.testBit_mod_two_pow,kH hi,Bool.true_and]at h1
  exact h1
 ·intro h
  apply Nat.eq_of_testBit_eq
  intro i
  rw[Nat.testBit_mod_two_pow]
  by_cases hi:i<d.length
  ·rw[kH hi,Bool.true_and,fxN_bit d hi];exact h i hi
  ·rw[kI hi,Bool.false_and,Nat.testBit_lt_two_pow (Nat.lt_of_lt_of_le (fxN_lt d _) (Nat.pow_le_pow_right (by decide) (by omega)))]
def rstS(b:Bk)(d:List Int)(s:Nat):List Int:=memP (fun i=>bt s i&&decide (d.length≤i)) b.scenes.length
theorem rst_bt{d:List Int}{s:Nat}(h:fixB d s=true):memP (bt (s - fxN d d.length)) b.scenes.length=rstS b d s:=by
 unfold fixB at h
 have h:=of_decide_eq_true h
 refine zBm fun i _=>?_
 have e:s - fxN d d.length=2 ^ d.length*(s / 2 ^ d.length):=by
  have:=Nat.div_add_mod s (2 ^ d.length)
  omega
 show(s - fxN d d.length).testBit i=_
 rw[e]
 by_cases hi:d.length≤i
 ·rw[kH hi,Bool.and_true]
  obtain⟨k,rfl⟩:∃k,i=d.length+k:=⟨i - d.length,by omega⟩
  rw[Nat.testBit_two_pow_mul,Nat.testBit_div_two_pow]
  simp[bt,Nat.add_comm]
 ·rw[kI hi,Bool.and_false,Nat.testBit_two_pow_mul]
  simp;intro h2;omega
theorem memP_split(P:Nat→Bool){k:Nat}:∀{n:Nat},k≤n→memP P n=memP P k++memP (fun i=>P i&&decide (k≤i)) n:=by
 have z:∀m,m≤k→memP (fun i=>P i&&decide (k≤i)) m=[]:=by
  intro m
  induction m with
  |zero=>intro _;rfl
  |succ m ih=>intro hm;rw[zBH,ih (by omega),if_neg (by rw[kI (by omega),Bool.and_false];decide)];rfl
 intro n
 induction n with
 | zero => intro h; have : k = 0 := by omega
           subst this;rfl
 |succ n ih=>
  intro h
  by_cases hk:k≤n
  ·rw[zBH,zBH,ih hk,kH hk,Bool.and_true,List.append_assoc]
  ·have:k=n+1:=by omega
   subst this
   rw[z _ (Nat.le_refl _),List.append_nil]
theorem fix_left{d:List Int}(hd:DOk b d){s:Nat}(h:fixB d s=true):memP (bt s) b.scenes.length=zAH d++rstS b d s:=by
 rw[memP_split (bt s) hd.len]
 congr 1
 exact zBm fun i hi=>fix_iff.1 h i hi
def lokS(b:Bk)(d:List Int)(s:Nat):Bool:=fixB d s&&(chF b (-1) (memP (bt s) b.scenes.length)&&fitB b d (memP (bt s) b.scenes.length))
theorem dn_must(h:BOk b){d:List Int}(hd:wZ b d=true){i:Nat}(hi:i<d.length)(hl:zBL d i=true):zAT b i=false:=by
 have hx:d[i]? =some d[i]:=List.getElem?_eq_getElem hi
 have h1:=done_at hd hx
 unfold zBL at hl
 rw[hx]at hl
 have hl:d[i]= -1:=of_decide_eq_true hl
 unfold dnB at h1
 rw[hl]at h1
 cases hm:zAT b i with
 |false=>rfl
 |true=>
  rw[hm]at h1
  cases hq:b.scenes[i]? with
  |none=>rw[hq]at h1;simp at h1
  |some q=>
   rw[hq]at h1
   have:=h.sc _ q hq
   simp only[Bool.not_true,Bool.and_false,Bool.false_or]at h1
   have:=zAP.1 h1
   omega
theorem lok_iff(h:BOk b){d:List Int}(hd:wZ b d=true)(s:Nat):lokS b d s=(okN b d (bt s) b.scenes.length&&fitB b d (memP (bt s) b.scenes.length)):=by
 have hdk:=zDe h hd
 have hlen:=hdk.len
 unfold lokS
 rw[←Bool.and_assoc]
 congr 1
 apply Bool.eq_iff_iff.2
 rw[Bool.and_eq_true,fix_iff,cho_iff,zDX]
 constructor
 ·rintro⟨h1,h2⟩ i hi
  unfold canB
  by_cases hid:i<d.length
  ·rw[if_pos hid]
   exact kH (h1 i hid)
  ·rw[if_neg hid]
   cases hb:bt s i with
   |false=>rfl
   |true=>
    have:=h2.mu (i:Int) ((mem_P hi).2 hb)
    rw[Int.toNat_natCast]at this
    rw[this];rfl
 ·intro h1
  have h2:∀i,i<d.length→bt s i=zBL d i:=fun i hi=>by
   have:=h1 i (by omega)
   unfold canB at this
   rw[if_pos hi]at this
   exact of_decide_eq_true this
  refine⟨h2,cho_mem fun i hi hb=>?_⟩
  by_cases hid:i<d.length
  ·exact dn_must h hd hid (by rw[←h2 i hid];exact hb)
  ·have:=h1 i hi
   unfold canB at this
   rw[if_neg hid,hb]at this
   simpa using this
def ptB(b:Bk)(d:List Int)(j:Nat):List (List Int):=((List.range j).filter (lokS b d)).map (rstS b d)
theorem ptB_succ(b:Bk)(d:List Int)(j:Nat):ptB b d (j+1)=ptB b d j++if lokS b d j=true then [rstS b d j]else []:=by
 unfold ptB
 rw[List.range_succ,List.filter_append,List.map_append]
 congr 1
 cases h:lokS b d j with
 |true=>simp[h]
 |false=>simp[h]
def bsr(b:Bk)(d:List Int)(j:Nat):Option (List Int):=bstO (wt b) (ptB b d j)
theorem bsr_cue(h:BOk b){d:List Int}(hd:wZ b d=true):bsr b d (2 ^ b.scenes.length)=cueO b d∧(bsr b d (2 ^ b.scenes.length)).isSome=(lgt b d).isSome:=by
 have hdk:=zDe h hd
 have e1:zGA b d=(ptB b d (2 ^ b.scenes.length)).map fun r=>zAH d++r:=by
  unfold zGA chs ptC ptB
  rw[List.map_map,List.filter_map,List.filter_filter]
  have e2:((List.range (2 ^ b.scenes.length)).filter fun s=>(fitB b d ∘ fun s=>memP (bt s) b.scenes.length) s&&okN b d (bt s) b.scenes.length)=(List.range (2 ^ b.scenes.length)).filter (lokS b d):=by
   refine List.filter_congr fun s _=>?_
   rw[lok_iff h hd]
   exact Bool.and_comm _ _
  rw[e2]
  refine List.map_congr_left fun s hs=>?_
  obtain⟨_,h2⟩:=List.mem_filter.1 hs
  unfold lokS at h2
  rw[Bool.and_eq_true]at h2
  exact fix_left hdk h2.1
 have e3:lgt b d=(bsr b d (2 ^ b.scenes.length)).map fun r=>zAH d++r:=by
  unfold lgt bsr
  rw[e1,bst_pre]
 unfold cueO
 rw[e3]
 cases bsr b d (2 ^ b.scenes.length)with
 |none=>exact⟨rfl,rfl⟩
 |some r=>exact⟨by show some r=some ((zAH d++r).drop _);rw[List.drop_left],rfl⟩
theorem bsr_succ(b:Bk)(d:List Int)(j:Nat):bsr b d (j+1)=if lokS b d j=true then bstS (wt b) (bsr b d j) (rstS b d j)else bsr b d j:=by
 unfold bsr
 rw[ptB_succ]
 split
 ·exact bst_snoc _ _ _
 ·rw[List.append_nil]
end Go.Proofs.YtlknfhjfkcboiaaDoor.night
