import Derived.Test.YthhbfbmfhldbaaaDoorVamT23
set_option linter.unusedVariables false
set_option linter.unusedSimpArgs false
set_option linter.constructorNameAsVariable false
namespace Go.Proofs.YthhbfbmfhldbaaaDoor.locks
open Vam
variable {is:FuncId→Bool}{orc:Known}{l:Ln}
noncomputable def b94:Code:=(Tryd.f94.body).getD .skip
theorem body94:bodyOf Tryd.prog 94=some (11,b94,[.tmp 4]):=by kernel_rfl
theorem pure94:pureFn Tryd.prog 94=true:=by kernel_rfl
noncomputable def b59:Code:=(Tryd.f59.body).getD .skip
theorem body59:bodyOf Tryd.prog 59=some (76,b59,[.tmp 4]):=by kernel_rfl
theorem pure59:pureFn Tryd.prog 59=true:=by kernel_rfl
theorem ret94(hi:Off is)(l:Ln)(w:Int):RetP Tryd.prog is orc 94 [l.u,.int .i64 w] (.int .i64 (zCx l w)):=by
 refine zw body94 pure94 (hi 94 (by decide)) rfl rfl (yq (yk l 5) (.int _ _ _)) (.inl (.int _ _ _)) ?_
 unfold zCx
 by_cases c:w=0
 ·rw[if_pos c]
  refine kQ (zk rfl rfl (zA rfl (zB ?_)))
  refine zH [(1,.int .i64 w),(2,U.box 0 0)] ([SB.box [.lst .ro 1 (zE (Ln.slots l)),.int .i64 (Ln.left l),.int .i64 (Ln.right l),.int .i64 (Ln.run l)]]) (.n2 rfl) rfl fun fr=>?_
  refine k_seq (kQ (zC rfl (ks rfl (zB (k_cT rfl (kF (by omega)) (kQ (kw rfl zCW (kA sh3 rfl (zA rfl (zB (zV ?_)))))))))))
  refine⟨.inr rfl,_,.cons _ _ _ _ (.tmp 4) .nil,?_⟩
  exact .refl _
 ·rw[if_neg c]
  refine kQ (zk rfl rfl (zA rfl (zB ?_)))
  refine zH [(1,.int .i64 w),(2,U.box 0 0)] ([SB.box [.lst .ro 1 (zE (Ln.slots l)),.int .i64 (Ln.left l),.int .i64 (Ln.right l),.int .i64 (Ln.run l)]]) (.n2 rfl) rfl fun fr=>?_
  refine k_seq (kQ (zC rfl (ks rfl (zB (k_cF rfl (kG (by omega)) (zL (kQ (kw rfl zEG (kA sh3 rfl (zA rfl (zB (zV ?_))))))))))))
  refine⟨.inr rfl,_,.cons _ _ _ _ (.tmp 4) .nil,?_⟩
  exact .refl _
theorem pl_nat(p:List Int)(m:Nat):pl p (m:Int)=at' p (m % p.length):=by
 unfold pl at'
 rw[←Int.natCast_emod,Int.toNat_natCast]
def samB(p:List Int)(i n:Nat):Nat→Bool
 |0=>true
 |k+1=>samB p i n k&&decide (at' p ((i+(k+1)) % n)=at' p i)
theorem sam_iff{p:List Int}{i n:Nat}:∀k,samB p i n k=true↔ ∀j,1≤j→j≤k→at' p ((i+j) % n)=at' p i:=by
 intro k
 induction k with
 |zero=>exact⟨fun _ j h1 h2=>by omega,fun _=>rfl⟩
 |succ k ih=>
  unfold samB
  rw[Bool.and_eq_true,ih,decide_eq_true_eq]
  constructor
  ·rintro⟨h1,h2⟩ j j1 j2
   by_cases c:j≤k
   ·exact h1 j j1 c
   ·have:j=k+1:=by omega
    subst this;exact h2
  ·intro h
   exact⟨fun j j1 j2=>h j j1 (by omega),h (k+1) (by omega) (by omega)⟩
theorem nowin_iff{p:List Int}(h1:1≤p.length){r:Nat}:NoWin p r↔ ∀i,i<p.length→0≤at' p i→samB p i p.length r=false:=by
 constructor
 ·intro h i hi h0
  cases c:samB p i p.length r with
  |false=>rfl
  |true=>
   exfalso
   refine h _ h0 (i:Int) fun j hj=>?_
   unfold hit
   rw[show(i:Int)+(j:Int)=((i+j:Nat):Int) by omega,pl_nat]
   refine kF ?_
   by_cases j0:j=0
   ·subst j0;rw[Nat.add_zero,Nat.mod_eq_of_lt hi]
   ·exact(sam_iff r).1 c j (by omega) hj
 ·intro h who h0 i hw
  have hb1:=Int.emod_nonneg i (show(p.length:Int)≠0 by omega)
  have hb2:=Int.emod_lt_of_pos i (show(0:Int)<p.length by omega)
  obtain⟨i2,e⟩:∃i2:Nat,i % (p.length:Int)=i2:=⟨(i % (p.length:Int)).toNat,by omega⟩
  have key:∀k:Nat,k≤r→at' p ((i2+k) % p.length)=who:=fun k hk=>by
   have:=of_decide_eq_true (hw k hk)
   rw[←this,←pl_nat,←pl_mod p (i+k),←Int.emod_add_emod,e,pl_mod]
   rfl
  have k0:=key 0 (Nat.zero_le _)
  have hi2:i2<p.length:=by omega
  rw[Nat.add_zero,Nat.mod_eq_of_lt hi2]at k0
  have:=h i2 hi2 (by omega)
  rw[(sam_iff r).2 fun j _ j2=>by rw[key j j2,k0]]at this
  cases this
def okS(l:Ln)(p:List Int)(j:Nat):Bool:=tokB l (at' p j) (at' l.slots j)&&(decide (at' l.slots j= -1)|| !samB p j l.slots.length l.run.toNat)
theorem div_ok(h:VL l){p:List Int}(hl:p.length=l.slots.length):divB l p=true↔ ∀j,j<l.slots.length→okS l p j=true:=by
 have hn:=h.n
 rw[zBS,nowin_iff (by omega),hl]
 have key:∀j,tokB l (at' p j) (at' l.slots j)=true→(at' l.slots j= -1↔ ¬ 0≤at' p j):=fun j ht=>by
  rcases wn ht with ⟨e1,e2⟩|⟨e1,e2⟩
  ·omega
  ·constructor
   ·intro e;exact absurd e e2
   ·intro e;omega
 unfold okS
 constructor
 ·rintro⟨_,h1,h2⟩ j hj
  rw[h1 j hj,Bool.true_and,Bool.or_eq_true,decide_eq_true_eq,Bool.not_eq_true']
  by_cases c:at' l.slots j= -1
  ·exact .inl c
  ·have:=key j (h1 j hj)
   exact .inr (h2 j hj (by by_cases d : 0 ≤ at' p j
                           · exact d
                           · exact absurd (this.2 d) c))
 ·intro hk
  refine⟨rfl,fun j hj=>?_,fun j hj h0=>?_⟩
  ·have:=hk j hj
   rw[Bool.and_eq_true]at this;exact this.1
  ·have:=hk j hj
   rw[Bool.and_eq_true,Bool.or_eq_true,decide_eq_true_eq,Bool.not_eq_true']at this
   rcases this.2 with e|e
   ·exact absurd h0 ((key j this.1).1 e)
   ·exact e
theorem div_no(h:VL l){p:List Int}{j:Nat}(hj:j<l.slots.length)(hk:okS l p j=false):divB l p=false:=by
 cases c:divB l p with
 |false=>rfl
 |true=>
  rw[(div_ok h (zBS.1 c).1).1 c j hj]at hk;cases hk
set_option maxHeartbeats 32000000 in
theorem ret59(hi:Off is)(h:VL l)(p:List Int):RetP Tryd.prog is orc 59 [l.u,.lst .ro 1 (zE p)] (.bool (divB l p)):=by
 refine zw body59 pure59 (hi 59 (by decide)) rfl rfl (yq (yk l 5) (yG 6 .ro (fun h=>by cases h) 1 p)) (.inl (.bool _ _)) ?_
 have hn:=h.n
 have hrn:=h.rn
 by_cases hl:p.length=l.slots.length
 ·have hdv:=div_ok h hl
  have hno:=fun j=>div_no (l:=l) (p:=p) (j:=j) h
  generalize divB l p=B at*
  refine kQ (zk rfl rfl (zA rfl (zB ?_)))
  refine zH [(1,.lst .ro 1 (zE p)),(2,U.box 0 0)] ([SB.box [.lst .ro 1 (zE (Ln.slots l)),.int .i64 (Ln.left l),.int .i64 (Ln.right l),.int .i64 (Ln.run l)]]) (.n2 rfl) rfl fun fr=>?_
  refine kQ (kw rfl zS (kA sh22 rfl (zq rfl ty22 rfl (List.length_map _) ?_)))
  refine zA rfl (zB (k_seq (kQ (zC rfl (zq rfl ty22 rfl (List.length_map _) ?_)))))
  refine zC rfl (kr rfl (zB (k_cF rfl (kG (by omega)) (zL (k_seq (kQ (zA rfl (zB (zI ?_)))))))))
  refine yX (fun kk s3=>∃i:Nat,kk+i=l.slots.length∧(∀j,j<i→okS l p j=true)∧s3.st=[.box l.cs]∧Holds s3 [(1,.lst .ro 1 (zE p)),(2,.box 0 0),(5,.int .i64 l.slots.length),(6,.int .i64 i)]) (fun kk s3 hJ=>?_) l.slots.length _ ⟨0,rfl,fun _ h=>by omega,rfl,.c4 rfl rfl rfl rfl (.nil rfl)⟩
  obtain⟨i,hk,hall,hst3,hs3⟩:=hJ
  refine zH _ _ hs3 hst3 fun fr3=>?_
  by_cases hin:i<l.slots.length
  ·obtain⟨t,ht⟩:∃t,l.slots[i]? =some t:=⟨l.slots[i],List.getElem?_eq_getElem hin⟩
   obtain⟨a,ha⟩:∃a,p[i]? =some a:=⟨p[i],List.getElem?_eq_getElem (by omega)⟩
   have hat:at' l.slots i=t:=by unfold at';rw[ht];rfl
   have hap:at' p i=a:=by unfold at';rw[ha];rfl
   have htn:=h.tn t (List.mem_of_getElem? ht)
   have hup:okS l p i=true→∀j,j<i+1→okS l p j=true:=fun e j hj=>by
    by_cases c:j<i
    ·exact hall j c
    ·have:j=i:=by omega
     subst this;exact e
   have hoi:=hno i hin
   have hok:okS l p i=(tokB l a t&&(decide (t= -1)|| !samB p i l.slots.length l.run.toNat)):=by unfold okS;rw[hat,hap]
   by_cases c1:t<0
   ·have c2:t= -1:=by omega
    subst c2
    by_cases c3:a= -1
    ·subst c3
     refine k_seq (kQ (zC rfl (zC rfl (kp rfl (zB (k_cT rfl (kF (by omega)) (zL (k_seq (zI (k_seq (kQ (kw rfl zS (kA sh22 rfl (zC rfl (yA (u:=.int .i64 ((-1:Int))) rfl ty22 rfl rfl (Int.natCast_nonneg _) (by simp[ht]) cl3 ?_)))))))))))))))
     refine kC sh3 rfl ?_
     refine kp rfl (zB (k_cT rfl rfl ?_))
     refine k_seq (kQ (zC rfl (zC rfl (yA (u:=.int .i64 ((-1:Int))) rfl ty22 rfl rfl (Int.natCast_nonneg _) (by simp[ha]) cl3 ?_))))
     refine kC sh3 rfl ?_
     refine kr rfl (zB ?_)
     refine zH [(1,.lst .ro 1 (zE p)),(2,U.box 0 0),(5,.int .i64 ↑(List.length (Ln.slots l))),(6,.int .i64 ↑i),(31,U.bool (decide ((-1:Int)≠(-1:Int))))] ([SB.box (Ln.cs l)]) (.n5 rfl) rfl fun fr=>?_
     refine k_cF rfl rfl ?_
     refine zL (zj (k_region (zC rfl ?_)))
     refine kz rfl (by unfold I64;omega) (zA rfl (zB ?_))
     exact⟨kk - 1,by omega,i+1,by omega,hup (by rw[hok];rfl),rfl,.c4 rfl rfl rfl rfl (.nil rfl)⟩
    ·have e:tokB l a (-1)=false:=by
      cases d:tokB l a (-1)with
      |false=>rfl
      | true => rcases wn d with ⟨d, _⟩ | ⟨_, d⟩
                · exact absurd d c3
                · exact absurd rfl d
     rw[hoi (by rw[hok,e];rfl)]
     refine k_seq (kQ (zC rfl (zC rfl (kp rfl (zB (k_cT rfl (kF (by omega)) (zL (k_seq (zI (k_seq (kQ (kw rfl zS (kA sh22 rfl (zC rfl (yA (u:=.int .i64 ((-1:Int))) rfl ty22 rfl rfl (Int.natCast_nonneg _) (by simp[ht]) cl3 ?_)))))))))))))))
     refine kC sh3 rfl ?_
     refine kp rfl (zB (k_cT rfl rfl ?_))
     refine k_seq (kQ (zC rfl (zC rfl (yA (u:=.int .i64 (a)) rfl ty22 rfl rfl (Int.natCast_nonneg _) (by simp[ha]) cl3 ?_))))
     refine kC sh3 rfl ?_
     refine kr rfl (zB ?_)
     refine zH [(1,.lst .ro 1 (zE p)),(2,U.box 0 0),(5,.int .i64 ↑(List.length (Ln.slots l))),(6,.int .i64 ↑i),(31,U.bool (decide (a≠(-1:Int))))] ([SB.box (Ln.cs l)]) (.n5 rfl) rfl fun fr=>?_
     refine k_cT rfl (kF (by omega)) (kQ (zA rfl (zB (zV ?_))))
     refine⟨.inr rfl,_,.cons _ _ _ _ (.tmp 4) .nil,?_⟩
     exact .refl _
   ·have q51:=ret51 (orc:=orc) hi a 0 1
    by_cases c2:0≤a∧a≤1
    ·rw[wg.2 c2]at q51
     have q94:=ret94 (orc:=orc) hi l a
     have hsb:0≤zCx l a∧zCx l a≤1000000:=by
      have h1:=h.lf
      have h2:=h.rt
      unfold zCx
      split<;>omega
     have q50:=ret50 (orc:=orc) hi (s:=zCx l a) (t:=t) hsb (by omega)
     have htk:tokB l a t=bitI (zCx l a) t:=by
      unfold tokB
      rw[kG (show ¬ t= -1 by omega),kF (show t≠ -1 by omega),Bool.and_false,Bool.false_or,Bool.true_and]
      rcases(show a=0∨a=1 by omega)with rfl|rfl<;>rfl
     cases c3:bitI (zCx l a) t with
     |false=>
      rw[c3]at q50 htk
      rw[hoi (by rw[hok,htk];rfl)]
      refine k_seq (kQ (zC rfl (zC rfl (kp rfl (zB (k_cT rfl (kF (by omega)) (zL (k_seq (zI (k_seq (kQ (kw rfl zS (kA sh22 rfl (zC rfl (yA (u:=.int .i64 (t)) rfl ty22 rfl rfl (Int.natCast_nonneg _) (by simp[ht]) cl3 ?_)))))))))))))))
      refine kC sh3 rfl ?_
      refine kp rfl (zB (k_cF rfl (kG (by omega)) (zL (k_seq (k_seq (yf [.plain,.plain,.plain,.plain,.plain,.plain,.plain,.read true,.plain,.plain,.plain,.read true,.read false,.plain,.read true,.plain,.plain,.read true,.plain,.plain,.plain] (by kernel_rfl) (by kernel_rfl) (by kernel_rfl) ?_))))))
      refine zD (zC rfl (zB rfl)) (zD (zC rfl (zB rfl)) (zD (yA (u:=.int .i64 (a)) rfl ty22 rfl rfl (Int.natCast_nonneg _) (by simp[ha]) cl3 (zB rfl)) ?_))
      refine zD (kC sh3 rfl (zB rfl)) ?_
      refine zD (zN rfl (q51) (.lrefl _) (zB rfl)) ?_
      refine zD (yc rfl rfl (zB rfl)) ?_
      refine zD (zC rfl (zB rfl)) (kl rfl (zf rfl (kB sh24 rfl (zB rfl)) ?_))
      refine kl rfl (zD (zC rfl (zB rfl)) ?_)
      refine zn [(1,.lst .ro 1 (zE p)),(2,U.box 0 0),(5,.int .i64 ↑(List.length (Ln.slots l))),(6,.int .i64 ↑i),(38,U.bool !Bool.true),(39,U.agg [.lst .ro 1 (zE (Ln.slots l)),.int .i64 (Ln.left l),.int .i64 (Ln.right l),.int .i64 (Ln.run l)]),(40,.lst .ro 1 (zE p))] [] ([SB.box (Ln.cs l)]) (.n7 rfl) rfl rfl fun fr=>?_
      refine kl rfl ?_
      refine zn [(1,.lst .ro 1 (zE p)),(2,U.box 0 0),(5,.int .i64 ↑(List.length (Ln.slots l))),(6,.int .i64 ↑i),(38,U.bool !Bool.true),(39,U.agg [.lst .ro 1 (zE (Ln.slots l)),.int .i64 (Ln.left l),.int .i64 (Ln.right l),.int .i64 (Ln.run l)]),(40,.lst .ro 1 (zE p))] [] ([SB.box (Ln.cs l)]) (.n7 rfl) rfl rfl fun fr=>?_
      refine zD (zC rfl (zB rfl)) (kl rfl (zD (yA (u:=.int .i64 (a)) rfl ty22 rfl rfl (Int.natCast_nonneg _) (by simp[ha]) cl3 (zB rfl)) ?_))
      refine kl rfl (zf rfl (kC sh3 rfl (zB rfl)) ?_)
      refine kl rfl (zCY rfl (q94) (.int _ _) (.lrefl _) ?_)
      refine kl rfl (zD (kw rfl zS (zB rfl)) ?_)
      refine kl rfl (zf rfl (kA sh22 rfl (zB rfl)) (kl rfl (zD (zC rfl (zB rfl)) (kl rfl (zD (yA (u:=.int .i64 (t)) rfl ty22 rfl rfl (Int.natCast_nonneg _) (by simp[ht]) cl3 (zB rfl)) ?_)))))
      refine kl rfl (zf rfl (kC sh3 rfl (zB rfl)) ?_)
      refine zn [(1,.lst .ro 1 (zE p)),(2,U.box 0 0),(5,.int .i64 ↑(List.length (Ln.slots l))),(6,.int .i64 ↑i),(38,U.bool !Bool.true),(44,.int .i64 (zCx l a)),(49,.int .i64 t)] [] ([SB.box (Ln.cs l)]) (.n7 rfl) rfl rfl fun fr=>?_
      refine kl rfl ?_
      refine zn [(1,.lst .ro 1 (zE p)),(2,U.box 0 0),(5,.int .i64 ↑(List.length (Ln.slots l))),(6,.int .i64 ↑i),(38,U.bool !Bool.true),(44,.int .i64 (zCx l a)),(49,.int .i64 t)] [] ([SB.box (Ln.cs l)]) (.n7 rfl) rfl rfl fun fr=>?_
      refine zD (zN rfl (q50) (.lrefl _) (zB rfl)) ?_
      refine kl rfl (zD (yc rfl rfl (zB rfl)) ?_)
      refine zD (kD rfl (zB rfl)) ?_
      refine wm ?_
      refine zH [(1,.lst .ro 1 (zE p)),(2,U.box 0 0),(5,.int .i64 ↑(List.length (Ln.slots l))),(6,.int .i64 ↑i),(52,U.bool !Bool.false)] ([SB.box (Ln.cs l)]) (.n5 rfl) rfl fun fr=>?_
      refine k_cT rfl rfl ?_
      refine kQ (zA rfl (zB (zV ?_)))
      refine⟨.inr rfl,_,.cons _ _ _ _ (.tmp 4) .nil,?_⟩
      exact .refl _
     |true=>
      rw[c3]at q50 htk
      rw[htk,kG (show ¬ t= -1 by omega),Bool.true_and,Bool.false_or]at hok
      refine k_seq (kQ (zC rfl (zC rfl (kp rfl (zB (k_cT rfl (kF (by omega)) (zL (k_seq (zI (k_seq (kQ (kw rfl zS (kA sh22 rfl (zC rfl (yA (u:=.int .i64 (t)) rfl ty22 rfl rfl (Int.natCast_nonneg _) (by simp[ht]) cl3 ?_)))))))))))))))
      refine kC sh3 rfl ?_
      refine kp rfl (zB (k_cF rfl (kG (by omega)) (zL (k_seq (k_seq (yf [.plain,.plain,.plain,.plain,.plain,.plain,.plain,.read true,.plain,.plain,.plain,.read true,.read false,.plain,.read true,.plain,.plain,.read true,.plain,.plain,.plain] (by kernel_rfl) (by kernel_rfl) (by kernel_rfl) ?_))))))
      refine zD (zC rfl (zB rfl)) (zD (zC rfl (zB rfl)) (zD (yA (u:=.int .i64 (a)) rfl ty22 rfl rfl (Int.natCast_nonneg _) (by simp[ha]) cl3 (zB rfl)) ?_))
      refine zD (kC sh3 rfl (zB rfl)) ?_
      refine zD (zN rfl (q51) (.lrefl _) (zB rfl)) ?_
      refine zD (yc rfl rfl (zB rfl)) ?_
      refine zD (zC rfl (zB rfl)) (kl rfl (zf rfl (kB sh24 rfl (zB rfl)) ?_))
      refine kl rfl (zD (zC rfl (zB rfl)) ?_)
      refine zn [(1,.lst .ro 1 (zE p)),(2,U.box 0 0),(5,.int .i64 ↑(List.length (Ln.slots l))),(6,.int .i64 ↑i),(38,U.bool !Bool.true),(39,U.agg [.lst .ro 1 (zE (Ln.slots l)),.int .i64 (Ln.left l),.int .i64 (Ln.right l),.int .i64 (Ln.run l)]),(40,.lst .ro 1 (zE p))] [] ([SB.box (Ln.cs l)]) (.n7 rfl) rfl rfl fun fr=>?_
      refine kl rfl ?_
      refine zn [(1,.lst .ro 1 (zE p)),(2,U.box 0 0),(5,.int .i64 ↑(List.length (Ln.slots l))),(6,.int .i64 ↑i),(38,U.bool !Bool.true),(39,U.agg [.lst .ro 1 (zE (Ln.slots l)),.int .i64 (Ln.left l),.int .i64 (Ln.right l),.int .i64 (Ln.run l)]),(40,.lst .ro 1 (zE p))] [] ([SB.box (Ln.cs l)]) (.n7 rfl) rfl rfl fun fr=>?_
      refine zD (zC rfl (zB rfl)) (kl rfl (zD (yA (u:=.int .i64 (a)) rfl ty22 rfl rfl (Int.natCast_nonneg _) (by simp[ha]) cl3 (zB rfl)) ?_))
      refine kl rfl (zf rfl (kC sh3 rfl (zB rfl)) ?_)
      refine kl rfl (zCY rfl (q94) (.int _ _) (.lrefl _) ?_)
      refine kl rfl (zD (kw rfl zS (zB rfl)) ?_)
      refine kl rfl (zf rfl (kA sh22 rfl (zB rfl)) (kl rfl (zD (zC rfl (zB rfl)) (kl rfl (zD (yA (u:=.int .i64 (t)) rfl ty22 rfl rfl (Int.natCast_nonneg _) (by simp[ht]) cl3 (zB rfl)) ?_)))))
      refine kl rfl (zf rfl (kC sh3 rfl (zB rfl)) ?_)
      refine zn [(1,.lst .ro 1 (zE p)),(2,U.box 0 0),(5,.int .i64 ↑(List.length (Ln.slots l))),(6,.int .i64 ↑i),(38,U.bool !Bool.true),(44,.int .i64 (zCx l a)),(49,.int .i64 t)] [] ([SB.box (Ln.cs l)]) (.n7 rfl) rfl rfl fun fr=>?_
      refine kl rfl ?_
      refine zn [(1,.lst .ro 1 (zE p)),(2,U.box 0 0),(5,.int .i64 ↑(List.length (Ln.slots l))),(6,.int .i64 ↑i),(38,U.bool !Bool.true),(44,.int .i64 (zCx l a)),(49,.int .i64 t)] [] ([SB.box (Ln.cs l)]) (.n7 rfl) rfl rfl fun fr=>?_
      refine zD (zN rfl (q50) (.lrefl _) (zB rfl)) ?_
      refine kl rfl (zD (yc rfl rfl (zB rfl)) ?_)
      refine zD (kD rfl (zB rfl)) ?_
      refine wm ?_
      refine zH [(1,.lst .ro 1 (zE p)),(2,U.box 0 0),(5,.int .i64 ↑(List.length (Ln.slots l))),(6,.int .i64 ↑i),(52,U.bool !Bool.true)] ([SB.box (Ln.cs l)]) (.n5 rfl) rfl fun fr=>?_
      refine k_cF rfl rfl ?_
      refine zL (kQ (zA rfl (zB (k_seq (kQ (zA rfl (zB (zI ?_))))))))
      refine yX (fun kk s4=>∃m:Nat,kk+m=l.run.toNat∧s4.st=[.box l.cs]∧Holds s4 [(1,.lst .ro 1 (zE p)),(2,.box 0 0),(5,.int .i64 l.slots.length),(6,.int .i64 i),(7,.bool (samB p i l.slots.length m)),(8,.int .i64 ((m:Int)+1))]) (fun kk2 s4 hJ=>?_) l.run.toNat _ ⟨0,rfl,rfl,.c4 rfl rfl rfl rfl (.n2 rfl)⟩
      obtain⟨m,hk2,hst4,hs4⟩:=hJ
      refine zH _ _ hs4 hst4 fun fr4=>?_
      by_cases hm:m<l.run.toNat
      ·have hsu:samB p i l.slots.length (m+1)=(samB p i l.slots.length m&&decide (at' p ((i+(m+1)) % l.slots.length)=at' p i)):=rfl
       have hjl:(i+(m+1)) % l.slots.length<l.slots.length:=Nat.mod_lt _ (by omega)
       have hje:((i:Int)+((m:Int)+1)).tmod (l.slots.length:Int)=(((i+(m+1)) % l.slots.length:Nat):Int):=by rw[Int.tmod_eq_emod_of_nonneg (by omega)];rfl
       generalize (i+(m+1)) % l.slots.length=j2 at*
       obtain⟨u,hu⟩:∃u,p[j2]? =some u:=⟨p[j2],List.getElem?_eq_getElem (by omega)⟩
       have hau:at' p j2=u:=by unfold at';rw[hu];rfl
       rw[hau,hap]at hsu
       have e1:0≤((i:Int)+((m:Int)+1)).tmod (l.slots.length:Int):=by rw[hje];omega
       have ep:(zE p)[(((i:Int)+((m:Int)+1)).tmod (l.slots.length:Int)).toNat]? =some (.int .i64 u):=by rw[hje,Int.toNat_natCast,List.getElem?_map,hu];rfl
       cases c4:samB p i l.slots.length m with
       |false=>
        rw[c4,Bool.false_and]at hsu
        refine k_seq (kQ (zC rfl (kw rfl zAA (kA sh3 rfl (kq rfl (zB (k_cT rfl (kF (by omega)) (zL (k_seq (zI (yf [.plain,.plain,.plain,.plain,.plain,.plain,.plain,.plain,.plain,.read true,.plain,.plain,.plain,.read true,.plain,.plain,.plain] (by kernel_rfl) (by kernel_rfl) (by kernel_rfl) ?_)))))))))))
        refine zD (zC rfl (zB rfl)) (zD (zC rfl (zB rfl)) (kj rfl (kj rfl (kj rfl (kj rfl (kj rfl (kj rfl (kj rfl ?_))))))))
        refine zn [(1,.lst .ro 1 (zE p)),(2,U.box 0 0),(5,.int .i64 ↑(List.length (Ln.slots l))),(6,.int .i64 ↑i),(8,.int .i64 (↑m+(1:Int))),(60,.bool false)] [] ([SB.box (Ln.cs l)]) (.n6 rfl) rfl rfl fun fr=>?_
        refine kj rfl (kj rfl (kj rfl (kj rfl (kj rfl (kj rfl (zD (kD rfl (zB rfl)) ?_))))))
        refine zD (zA rfl (zB rfl)) ?_
        refine wm ?_
        refine zH [(1,.lst .ro 1 (zE p)),(2,U.box 0 0),(5,.int .i64 ↑(List.length (Ln.slots l))),(6,.int .i64 ↑i),(7,.bool false),(8,.int .i64 (↑m+(1:Int)))] ([SB.box (Ln.cs l)]) (.n6 rfl) rfl fun fr=>?_
        refine k_region (zC rfl ?_)
        refine kz rfl (by unfold I64;omega) (zA rfl (zB ?_))
        exact⟨kk2 - 1,by omega,m+1,by omega,rfl,.c4 rfl rfl rfl rfl (.cons (by rw[hsu];rfl) (.n1 rfl))⟩
       |true=>
        rw[c4,Bool.true_and]at hsu
        refine k_seq (kQ (zC rfl (kw rfl zAA (kA sh3 rfl (kq rfl (zB (k_cT rfl (kF (by omega)) (zL (k_seq (zI (yf [.plain,.plain,.plain,.plain,.plain,.plain,.plain,.plain,.plain,.read true,.plain,.plain,.plain,.read true,.plain,.plain,.plain] (by kernel_rfl) (by kernel_rfl) (by kernel_rfl) ?_)))))))))))
        refine zD (zC rfl (zB rfl)) (zD (zC rfl (zB rfl)) (kl rfl (zD (zC rfl (zB rfl)) (kl rfl (zD (zC rfl (zB rfl)) (kl rfl (zD (zC rfl (zB rfl)) (kl rfl ?_))))))))
        refine zD (kz rfl (by unfold I64;omega) (zB rfl)) ?_
        refine kl rfl (zD (zC rfl (zB rfl)) (kl rfl (zD (o_rem rfl rfl rfl (by omega) (zB rfl)) ?_)))
        refine kl rfl (zD (yA (u:=.int .i64 u) rfl ty22 rfl rfl e1 ep cl3 (zB rfl)) ?_)
        refine zn [(1,.lst .ro 1 (zE p)),(2,U.box 0 0),(5,.int .i64 ↑(List.length (Ln.slots l))),(6,.int .i64 ↑i),(8,.int .i64 (↑m+(1:Int))),(60,.bool true),(67,U.eref [.int .i64 u] 0)] [] ([SB.box (Ln.cs l)]) (.n7 rfl) rfl rfl fun fr=>?_
        refine kl rfl ?_
        refine zn [(1,.lst .ro 1 (zE p)),(2,U.box 0 0),(5,.int .i64 ↑(List.length (Ln.slots l))),(6,.int .i64 ↑i),(8,.int .i64 (↑m+(1:Int))),(60,.bool true),(67,U.eref [.int .i64 u] 0)] [] ([SB.box (Ln.cs l)]) (.n7 rfl) rfl rfl fun fr=>?_
        refine zf rfl (kC sh3 rfl (zB rfl)) ?_
        refine kl rfl (zD (zC rfl (zB rfl)) (kl rfl (zD (zC rfl (zB rfl)) (kl rfl (zD (yA (u:=.int .i64 (a)) rfl ty22 rfl rfl (Int.natCast_nonneg _) (by simp[ha]) cl3 (zB rfl)) ?_)))))
        refine kl rfl (zf rfl (kC sh3 rfl (zB rfl)) ?_)
        refine kl rfl (zD (ks rfl (zB rfl)) ?_)
        refine zD (kE rfl (zB rfl)) ?_
        refine zD (zA rfl (zB rfl)) ?_
        refine wm ?_
        refine zH [(1,.lst .ro 1 (zE p)),(2,U.box 0 0),(5,.int .i64 ↑(List.length (Ln.slots l))),(6,.int .i64 ↑i),(7,U.bool (decide (u=a))),(8,.int .i64 (↑m+(1:Int)))] ([SB.box (Ln.cs l)]) (.n6 rfl) rfl fun fr=>?_
        refine k_region (zC rfl ?_)
        refine kz rfl (by unfold I64;omega) (zA rfl (zB ?_))
        exact⟨kk2 - 1,by omega,m+1,by omega,rfl,.c4 rfl rfl rfl rfl (.cons (by rw[hsu];rfl) (.n1 rfl))⟩
      ·have hme:m=l.run.toNat:=by omega
       subst hme
       cases c4:samB p i l.slots.length l.run.toNat with
       |false=>
        rw[c4]at hok
        refine k_seq (kQ (zC rfl (kw rfl zAA (kA sh3 rfl (kq rfl (zB (k_cF rfl (kG (by omega)) (zj (kQ (zC rfl (zB (k_cF rfl rfl ?_))))))))))))
        refine zL (k_region (zC rfl ?_))
        refine kz rfl (by unfold I64;omega) (zA rfl (zB ?_))
        exact⟨kk - 1,by omega,i+1,by omega,hup hok,rfl,.c4 rfl rfl rfl rfl (.nil rfl)⟩
       |true=>
        rw[c4]at hok
        rw[hoi hok]
        refine k_seq (kQ (zC rfl (kw rfl zAA (kA sh3 rfl (kq rfl (zB (k_cF rfl (kG (by omega)) (zj (kQ (zC rfl (zB (k_cT rfl rfl ?_))))))))))))
        refine kQ (zA rfl (zB (zV ?_)))
        refine⟨.inr rfl,_,.cons _ _ _ _ (.tmp 4) .nil,?_⟩
        exact .refl _
    ·rw[show inS 0 1 a=false by rw[←Bool.not_eq_true,wg];exact c2]at q51
     have e:tokB l a t=false:=by
      cases d:tokB l a t with
      |false=>rfl
      |true=>rcases wn d with ⟨_,d⟩|⟨d,_⟩<;>omega
     rw[hoi (by rw[hok,e];rfl)]
     refine k_seq (kQ (zC rfl (zC rfl (kp rfl (zB (k_cT rfl (kF (by omega)) (zL (k_seq (zI (k_seq (kQ (kw rfl zS (kA sh22 rfl (zC rfl (yA (u:=.int .i64 (t)) rfl ty22 rfl rfl (Int.natCast_nonneg _) (by simp[ht]) cl3 ?_)))))))))))))))
     refine kC sh3 rfl ?_
     refine kp rfl (zB (k_cF rfl (kG (by omega)) (zL (k_seq (k_seq (yf [.plain,.plain,.plain,.plain,.plain,.plain,.plain,.read true,.plain,.plain,.plain,.read true,.read false,.plain,.read true,.plain,.plain,.read true,.plain,.plain,.plain] (by kernel_rfl) (by kernel_rfl) (by kernel_rfl) ?_))))))
     refine zD (zC rfl (zB rfl)) (zD (zC rfl (zB rfl)) (zD (yA (u:=.int .i64 (a)) rfl ty22 rfl rfl (Int.natCast_nonneg _) (by simp[ha]) cl3 (zB rfl)) ?_))
     refine zD (kC sh3 rfl (zB rfl)) ?_
     refine zD (zN rfl (q51) (.lrefl _) (zB rfl)) ?_
     refine zD (yc rfl rfl (zB rfl)) ?_
     refine zD (zC rfl (zB rfl)) (kj rfl (kj rfl ?_))
     refine zn [(1,.lst .ro 1 (zE p)),(2,U.box 0 0),(5,.int .i64 ↑(List.length (Ln.slots l))),(6,.int .i64 ↑i),(38,U.bool !Bool.false)] [] ([SB.box (Ln.cs l)]) (.n5 rfl) rfl rfl fun fr=>?_
     refine kj rfl (kj rfl (kj rfl (kj rfl (kj rfl (kj rfl (kj rfl (kj rfl (kj rfl ?_))))))))
     refine zn [(1,.lst .ro 1 (zE p)),(2,U.box 0 0),(5,.int .i64 ↑(List.length (Ln.slots l))),(6,.int .i64 ↑i),(38,U.bool !Bool.false)] [] ([SB.box (Ln.cs l)]) (.n5 rfl) rfl rfl fun fr=>?_
     refine kj rfl (kj rfl (zD (kE rfl (zB rfl)) ?_))
     refine wm ?_
     refine zH [(1,.lst .ro 1 (zE p)),(2,U.box 0 0),(5,.int .i64 ↑(List.length (Ln.slots l))),(6,.int .i64 ↑i),(52,.bool true)] ([SB.box (Ln.cs l)]) (.n5 rfl) rfl fun fr=>?_
     refine k_cT rfl rfl ?_
     refine kQ (zA rfl (zB (zV ?_)))
     refine⟨.inr rfl,_,.cons _ _ _ _ (.tmp 4) .nil,?_⟩
     exact .refl _
  ·have e:B=true:=hdv.2 fun j hj=>hall j (by omega)
   subst e
   refine k_seq (kQ (zC rfl (zC rfl (kp rfl (zB (k_cF rfl (kG (by omega)) (zj (kQ (zA rfl (zB (zV ?_)))))))))))
   refine⟨.inr rfl,_,.cons _ _ _ _ (.tmp 4) .nil,?_⟩
   exact .refl _
 ·have e:divB l p=false:=by
   cases c:divB l p with
   |false=>rfl
   |true=>exact absurd (zBS.1 c).1 hl
  rw[e]
  refine kQ (zk rfl rfl (zA rfl (zB ?_)))
  refine zH [(1,.lst .ro 1 (zE p)),(2,U.box 0 0)] ([SB.box [.lst .ro 1 (zE (Ln.slots l)),.int .i64 (Ln.left l),.int .i64 (Ln.right l),.int .i64 (Ln.run l)]]) (.n2 rfl) rfl fun fr=>?_
  refine kQ (kw rfl zS (kA sh22 rfl (zq rfl ty22 rfl (List.length_map _) ?_)))
  refine zA rfl (zB (k_seq (kQ (zC rfl (zq rfl ty22 rfl (List.length_map _) ?_)))))
  refine zC rfl (kr rfl (zB (k_cT rfl (kF (by omega)) (kQ (zA rfl (zB (zV ?_)))))))
  refine⟨.inr rfl,_,.cons _ _ _ _ (.tmp 4) .nil,?_⟩
  exact .refl _
end Go.Proofs.YthhbfbmfhldbaaaDoor.locks
