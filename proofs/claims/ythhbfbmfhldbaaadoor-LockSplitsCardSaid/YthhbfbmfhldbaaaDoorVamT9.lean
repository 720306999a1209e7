import Derived.Test.YthhbfbmfhldbaaaDoorVamT8
set_option linter.unusedVariables false
set_option linter.unusedSimpArgs false
set_option linter.constructorNameAsVariable false
namespace Go.Proofs.YthhbfbmfhldbaaaDoor.locks
open Vam
variable {is:FuncId→Bool}{orc:Known}{l:Ln}
theorem cl117:Program.cellsOf Tryd.prog 117=1:=by kernel_rfl
theorem zFs:zp Tryd.prog 75 0=some (0,73):=by kernel_rfl
theorem sh117:shOf Tryd.prog 117=.one:=by kernel_rfl
theorem ty118:tyOf Tryd.prog 118=.array 2 117:=by kernel_rfl
noncomputable def b58:Code:=(Tryd.f58.body).getD .skip
theorem body58:bodyOf Tryd.prog 58=some (58,b58,[.tmp 2]):=by kernel_rfl
theorem pure58:pureFn Tryd.prog 58=true:=by kernel_rfl
theorem cntF_per{f:Int→Bool}{r:Nat}{st m:Int}(hf:∀x,f (x+m)=f x):∀(k:Nat) (a:Int) (c:Nat),cntF f r st k (a+m) c=cntF f r st k a c:=by
 intro k
 induction k with
 |zero=>intro a c;rfl
 |succ k ih=>
  intro a c
  unfold cntF
  rw[hf a,show a+m+st=a+st+m by omega,ih]
theorem rest_per{f:Int→Bool}{r:Nat}{m:Int}(hf:∀x,f (x+m)=f x)(i:Int):zCI f r (i+m)=zCI f r i:=by
 unfold zCI
 rw[show i+m+1=i+1+m by omega,show i+m - 1=i - 1+m by omega,cntF_per hf,cntF_per hf]
theorem rF_hit{p:List Int}{w:Int}(hw:w=0∨w=1):rF (plF p 0) (plF p 1) w p.length=hit p w:=by
 funext k
 unfold rF hit
 have e:∀v,plF p v (k % (p.length:Int)).toNat=decide (pl p k=v):=fun v=>by unfold plF at' pl;rfl
 rcases hw with rfl|rfl
 ·rw[if_pos rfl,e]
 ·rw[if_neg (by decide),e]
def SkP(l:Ln)(p:List Int)(i:Nat):Prop:=(at' p i= -1∧at' l.slots i= -1)∨((at' p i=0∨at' p i=1)∧zDp l (at' p i) (at' l.slots i)=true∧zCI (hit p (at' p i)) l.run.toNat i=true)
theorem split_sk(h:VL l){p:List Int}(hp:p.length=l.slots.length):divB l p=true↔ ∀i,i<l.slots.length→SkP l p i:=by
 have hn:=h.n
 have hrn:=h.rn
 have hpl:∀i:Nat,i<l.slots.length→pl p i=at' p i:=fun i hi=>by rw[pl_at hp,Nat.mod_eq_of_lt hi]
 rw[zBS]
 constructor
 ·rintro⟨_,h2,h3⟩ i hi
  rcases wn (h2 i hi)with c|⟨c1,c2⟩
  ·exact .inl c
  ·refine .inr ⟨c1,?_,?_⟩
   ·have:=h2 i hi
    unfold tokB at this
    simp only[Bool.or_eq_true,Bool.and_eq_true,decide_eq_true_eq]at this
    rcases this with ⟨_,e⟩|⟨_,_,e⟩
    ·exact absurd e c2
    ·unfold zDp;rw[kF c2,Bool.true_and];exact e
   ·refine(rest_iff _).2 (h3 (at' p i) (by omega)) i ?_
    unfold hit
    rw[hpl i hi];exact kF rfl
 ·intro hs
  have hin:∀i:Int,∃m:Nat,m<l.slots.length∧i=m+(l.slots.length:Int)*(i / l.slots.length):=fun i=>by
   have e1:=Int.emod_nonneg i (show(l.slots.length:Int)≠0 by omega)
   have e2:=Int.emod_lt_of_pos i (show(0:Int)<l.slots.length by omega)
   have e3:=Int.emod_add_mul_ediv i l.slots.length
   exact⟨(i % (l.slots.length:Int)).toNat,by omega,by rw[Int.toNat_of_nonneg e1];exact e3.symm⟩
  refine⟨hp,fun i hi=>?_,fun who h0 i hw=>?_⟩
  ·unfold tokB
   rcases hs i hi with ⟨c1,c2⟩|⟨c1,c2,_⟩
   ·rw[kF c1,kF c2];rfl
   ·unfold zDp at c2
    rw[c2]
    rcases c1 with c|c
    ·rw[kF c];simp
    ·rw[kF c];simp
  ·have hr:∀s:Int,hit p who s=true→zCI (hit p who) l.run.toNat s=true:=fun s hs1=>by
    obtain⟨m,hm,e⟩:=hin s
    have hper:∀x,hit p who (x+(l.slots.length:Int)*(s / l.slots.length))=hit p who x:=fun x=>by
     unfold hit
     rw[←hp,pl_add]
    have hs2:hit p who (m:Int)=true:=by rw[←hper,←e];exact hs1
    have hat:at' p m=who:=by
     unfold hit at hs2
     rw[hpl m hm]at hs2
     exact of_decide_eq_true hs2
    have:=hs m hm
    rw[e,rest_per hper]
    rcases this with ⟨c,_⟩|⟨_,_,c⟩
    ·omega
    ·rw[←hat];exact c
   exact(rest_iff _).1 hr i hw
set_option maxHeartbeats 16000000 in
theorem ret58(hi:Off is)(h:VL l)(p:List Int):RetP Tryd.prog is orc 58 [duetU l p] (.bool (divB l p)):=by
 refine zw body58 pure58 (hi 58 (by decide)) rfl rfl (wA (dat_duet l p 5)) (.inl (.bool _ _)) ?_
 have hn:=h.n
 by_cases hp:p.length=l.slots.length
 ·have hsk:=split_sk h hp
  have q73:=ret73 (orc:=orc) hi l (p:=p) (by omega)
  have q92:=ret92 (orc:=orc) hi l
  generalize divB l p=z at*
  obtain⟨f,hf⟩:∃f,f=plF p 0:=⟨_,rfl⟩
  obtain⟨g,hg⟩:∃g,g=plF p 1:=⟨_,rfl⟩
  rw[←hf,←hg]at q73
  unfold spU at q73
  have l1:=zl f
  have l2:=zl g
  have hU:∀S T,S=b16 f→T=b16 g→spU f g=.agg (zK (S++T)):=fun S T h1 h2=>by rw[h1,h2]
  obtain⟨S,hS⟩:∃S,S=b16 f:=⟨_,rfl⟩
  obtain⟨T,hT⟩:∃T,T=b16 g:=⟨_,rfl⟩
  have hU:=hU S T hS hT
  rw[←hS,←hT]at q73
  rw[←hS]at l1
  rw[←hT]at l2
  clear hS hT
  obtain⟨a0,a1,a2,a3,a4,a5,a6,a7,a8,a9,a10,a11,a12,a13,a14,a15,rfl⟩:=zDb l1
  obtain⟨b0,b1,b2,b3,b4,b5,b6,b7,b8,b9,b10,b11,b12,b13,b14,b15,rfl⟩:=zDb l2
  refine kQ (zk rfl rfl (zA rfl (zB ?_)))
  refine zH [(1,U.box 0 0)] ([SB.box [.lst .ro 1 (zE (Ln.slots l)),.int .i64 (Ln.left l),.int .i64 (Ln.right l),.int .i64 (Ln.run l),.lst .ro 1 (zE p)]]) (.n1 rfl) rfl fun fr=>?_
  refine k_seq (kQ (kw rfl fld75_1 (kA sh22 rfl (zq rfl ty22 rfl (List.length_map _) ?_))))
  refine kw rfl zFs (kw rfl yR (kw rfl zS (kA sh22 rfl (zq rfl ty22 rfl (List.length_map _) ?_))))
  refine kr rfl (zB (k_cF rfl (kG (by omega)) (zL (k_seq (yf [.read true,.read false,.plain,.read true,.quiet,.pre,.pre,.plain,.plain] (by kernel_rfl) (by kernel_rfl) (by kernel_rfl) ?_)))))
  refine zf rfl (kB sh75 rfl (zB rfl)) ?_
  refine zCY rfl (q73) (zDh [a0,a1,a2,a3,a4,a5,a6,a7,a8,a9,a10,a11,a12,a13,a14,a15,b0,b1,b2,b3,b4,b5,b6,b7,b8,b9,b10,b11,b12,b13,b14,b15]) (.lrefl _) ?_
  refine zD (kw rfl zFs (zB rfl)) ?_
  refine zf rfl (kB sh73 rfl (zB rfl)) ?_
  refine zDO rfl (q92) (.lrefl _) ?_
  refine d_pre rfl ze85 ?_
  refine d_pre rfl ze118 ?_
  refine zD (yY rfl rfl sh85 rfl rfl rfl rfl rfl (zB rfl)) ?_
  refine zD (yY rfl rfl sh118 rfl rfl rfl rfl rfl (zB rfl)) ?_
  refine wm ?_
  refine zH [(1,U.box 0 0),(3,U.box 1 0),(4,U.box 2 0)] ([SB.box [.lst .ro 1 (zE (Ln.slots l)),.int .i64 (Ln.left l),.int .i64 (Ln.right l),.int .i64 (Ln.run l),.lst .ro 1 (zE p)],SB.box [U.bool a0,U.bool a1,U.bool a2,U.bool a3,U.bool a4,U.bool a5,U.bool a6,U.bool a7,U.bool a8,U.bool a9,U.bool a10,U.bool a11,U.bool a12,U.bool a13,U.bool a14,U.bool a15,U.bool b0,U.bool b1,U.bool b2,U.bool b3,U.bool b4,U.bool b5,U.bool b6,U.bool b7,U.bool b8,U.bool b9,U.bool b10,U.bool b11,U.bool b12,U.bool b13,U.bool b14,U.bool b15],SB.box [U.fn 108 [Ln.u l] [],U.fn 109 [Ln.u l] []]]) (.n3 rfl) rfl fun fr=>?_
  refine k_seq (kQ (kw rfl fld75_1 (kA sh22 rfl (zq rfl ty22 rfl (List.length_map _) ?_))))
  refine zC rfl (zB (zI ?_))
  refine yX (fun kk s2=>∃i:Nat,kk+i=p.length∧(∀j,j<i→SkP l p j)∧s2.st=[.box [.lst .ro 1 (zE l.slots),.int .i64 l.left,.int .i64 l.right,.int .i64 l.run,.lst .ro 1 (zE p)],.box (zK ([a0,a1,a2,a3,a4,a5,a6,a7,a8,a9,a10,a11,a12,a13,a14,a15]++[b0,b1,b2,b3,b4,b5,b6,b7,b8,b9,b10,b11,b12,b13,b14,b15])),.box [.fn 108 [l.u] [],.fn 109 [l.u] []]]∧Holds s2 [(1,.box 0 0),(3,.box 1 0),(4,.box 2 0),(24,.lst .ro 1 (zE p)),(25,.int .i64 p.length),(26,.int .i64 i)]) (fun kk s2 hI=>?_) p.length _ ⟨0,rfl,(fun j hj=>by omega),rfl,.c4 rfl rfl rfl rfl (.n2 rfl)⟩
  obtain⟨i,hk,hall,hst2,hs2⟩:=hI
  by_cases hin:i<p.length
  ·obtain⟨t,hx,ha,ht⟩:=h.at (show i<l.slots.length by omega)
   obtain⟨x,hw⟩:∃x,p[i]? =some x:=⟨p[i],List.getElem?_eq_getElem hin⟩
   have hpx:at' p i=x:=by unfold at';rw[hw];rfl
   have hSk:SkP l p i↔((x= -1∧t= -1)∨((x=0∨x=1)∧zDp l x t=true∧zCI (hit p x) l.run.toNat i=true)):=by unfold SkP;rw[hpx,ha]
   have hno:(¬ SkP l p i)→z=false:=fun hn2=>by
    cases z with
    |false=>rfl
    |true=>exact absurd (hsk.1 rfl i (by omega)) hn2
   have hnx:SkP l p i→∀j,j<i+1→SkP l p j:=fun hc j hj=>by
    by_cases e:j=i
    ·rw[e];exact hc
    ·exact hall j (by omega)
   have q93:=ret93 (orc:=orc) hi x
   by_cases c1:x= -1
   ·by_cases c2:t= -1
    ·have hn3:=hnx (hSk.2 (.inl ⟨c1,c2⟩))
     refine zH _ _ hs2 hst2 fun fr2=>?_
     refine kQ (kp rfl (zB (k_seq (k_cT rfl (kF (by omega)) (zL (k_seq (zI (kQ (zC rfl (yA (u:=.int .i64 (x)) rfl ty22 rfl rfl (Int.natCast_nonneg _) (by simp[hw]) cl3 ?_))))))))))
     refine kC sh3 rfl ?_
     refine zA rfl (zA rfl (zB (k_seq (kQ (zC rfl (ks rfl (zC rfl (kh rfl (kF (by omega)) ?_))))))))
     refine kw rfl zFs (kh rfl (kF (by omega)) ?_)
     refine kw rfl yR (kh rfl (kF (by omega)) ?_)
     refine kw rfl zS (kh rfl (kF (by omega)) ?_)
     refine kA sh22 rfl (kh rfl (kF (by omega)) ?_)
     refine zC rfl (kh rfl (kF (by omega)) ?_)
     refine yA (u:=.int .i64 (t)) rfl ty22 rfl rfl (Int.natCast_nonneg _) (by simp[hx]) cl3 ?_
     refine kh rfl (kF (by omega)) ?_
     refine kC sh3 rfl ?_
     refine kh rfl (kF (by omega)) ?_
     refine ks rfl (wq rfl rfl (kF (by omega)) ?_)
     refine zB ?_
     refine zH [(1,U.box 0 0),(3,U.box 1 0),(4,U.box 2 0),(5,.int .i64 ↑i),(6,.int .i64 x),(24,.lst .ro 1 (zE p)),(25,.int .i64 ↑(List.length p)),(26,.int .i64 ↑i),(42,U.bool (decide (t=(-1:Int))))] ([SB.box [.lst .ro 1 (zE (Ln.slots l)),.int .i64 (Ln.left l),.int .i64 (Ln.right l),.int .i64 (Ln.run l),.lst .ro 1 (zE p)],SB.box (zK ([a0,a1,a2,a3,a4,a5,a6,a7,a8,a9,a10,a11,a12,a13,a14,a15]++[b0,b1,b2,b3,b4,b5,b6,b7,b8,b9,b10,b11,b12,b13,b14,b15])),SB.box [U.fn 108 [Ln.u l] [],U.fn 109 [Ln.u l] []]]) (.n9 rfl) rfl fun fr=>?_
     refine k_cT rfl (kF (by omega)) (zj (k_region ?_))
     refine kz rfl (by unfold I64;omega) (zC rfl (zB ?_))
     exact⟨kk - 1,by omega,i+1,by omega,hn3,rfl,.c4 rfl rfl rfl rfl (.n2 rfl)⟩
    ·have hz:=hno fun hc=>by rcases hSk.1 hc with ⟨_,e⟩|⟨e,_⟩<;>omega
     subst hz
     rw[show inS 0 1 x=false by cases c:inS 0 1 x with|false=>rfl|true=>exact absurd (wg.1 c) (by omega)]at q93
     refine zH _ _ hs2 hst2 fun fr2=>?_
     refine kQ (kp rfl (zB (k_seq (k_cT rfl (kF (by omega)) (zL (k_seq (zI (kQ (zC rfl (yA (u:=.int .i64 (x)) rfl ty22 rfl rfl (Int.natCast_nonneg _) (by simp[hw]) cl3 ?_))))))))))
     refine kC sh3 rfl ?_
     refine zA rfl (zA rfl (zB (k_seq (kQ (zC rfl (ks rfl (zC rfl (kh rfl (kF (by omega)) ?_))))))))
     refine kw rfl zFs (kh rfl (kF (by omega)) ?_)
     refine kw rfl yR (kh rfl (kF (by omega)) ?_)
     refine kw rfl zS (kh rfl (kF (by omega)) ?_)
     refine kA sh22 rfl (kh rfl (kF (by omega)) ?_)
     refine zC rfl (kh rfl (kF (by omega)) ?_)
     refine yA (u:=.int .i64 (t)) rfl ty22 rfl rfl (Int.natCast_nonneg _) (by simp[hx]) cl3 ?_
     refine kh rfl (kF (by omega)) ?_
     refine kC sh3 rfl ?_
     refine kh rfl (kF (by omega)) ?_
     refine ks rfl (wq rfl rfl (kF (by omega)) ?_)
     refine zB ?_
     refine zH [(1,U.box 0 0),(3,U.box 1 0),(4,U.box 2 0),(5,.int .i64 ↑i),(6,.int .i64 x),(24,.lst .ro 1 (zE p)),(25,.int .i64 ↑(List.length p)),(26,.int .i64 ↑i),(42,U.bool (decide (t=(-1:Int))))] ([SB.box [.lst .ro 1 (zE (Ln.slots l)),.int .i64 (Ln.left l),.int .i64 (Ln.right l),.int .i64 (Ln.run l),.lst .ro 1 (zE p)],SB.box (zK ([a0,a1,a2,a3,a4,a5,a6,a7,a8,a9,a10,a11,a12,a13,a14,a15]++[b0,b1,b2,b3,b4,b5,b6,b7,b8,b9,b10,b11,b12,b13,b14,b15])),SB.box [U.fn 108 [Ln.u l] [],U.fn 109 [Ln.u l] []]]) (.n9 rfl) rfl fun fr=>?_
     refine k_cF rfl (kG (by omega)) (zL (k_seq (kQ (zC rfl (zN rfl (q93) (.lrefl _) (yc rfl rfl (zB (k_cT rfl rfl ?_))))))))
     refine kQ (zA rfl (zB (zV ?_)))
     refine⟨.inr rfl,_,.cons _ _ _ _ (.tmp 2) .nil,?_⟩
     exact .refl _
   ·cases c3:inS 0 1 x with
    |false=>
     have hx2: ¬ (0≤x∧x≤1):=fun e=>by rw[wg.2 e]at c3;cases c3
     have hz:=hno fun hc=>by rcases hSk.1 hc with ⟨e,_⟩|⟨e,_⟩<;>omega
     subst hz
     rw[c3]at q93
     refine zH _ _ hs2 hst2 fun fr2=>?_
     refine kQ (kp rfl (zB (k_seq (k_cT rfl (kF (by omega)) (zL (k_seq (zI (kQ (zC rfl (yA (u:=.int .i64 (x)) rfl ty22 rfl rfl (Int.natCast_nonneg _) (by simp[hw]) cl3 ?_))))))))))
     refine kC sh3 rfl ?_
     refine zA rfl (zA rfl (zB (k_seq (kQ (zC rfl (ks rfl (zC rfl (kg rfl (kG (by omega)) ?_))))))))
     refine kg rfl (kG (by omega)) ?_
     refine kg rfl (kG (by omega)) ?_
     refine kg rfl (kG (by omega)) ?_
     refine kg rfl (kG (by omega)) ?_
     refine kg rfl (kG (by omega)) ?_
     refine kg rfl (kG (by omega)) ?_
     refine kg rfl (kG (by omega)) ?_
     refine zAO rfl rfl (kG (by omega)) ?_
     refine zB ?_
     refine zH [(1,U.box 0 0),(3,U.box 1 0),(4,U.box 2 0),(5,.int .i64 ↑i),(6,.int .i64 x),(24,.lst .ro 1 (zE p)),(25,.int .i64 ↑(List.length p)),(26,.int .i64 ↑i),(42,.bool false)] ([SB.box [.lst .ro 1 (zE (Ln.slots l)),.int .i64 (Ln.left l),.int .i64 (Ln.right l),.int .i64 (Ln.run l),.lst .ro 1 (zE p)],SB.box (zK ([a0,a1,a2,a3,a4,a5,a6,a7,a8,a9,a10,a11,a12,a13,a14,a15]++[b0,b1,b2,b3,b4,b5,b6,b7,b8,b9,b10,b11,b12,b13,b14,b15])),SB.box [U.fn 108 [Ln.u l] [],U.fn 109 [Ln.u l] []]]) (.n9 rfl) rfl fun fr=>?_
     refine k_cF rfl rfl ?_
     refine zL (k_seq (kQ (zC rfl (zN rfl (q93) (.lrefl _) (yc rfl rfl (zB (k_cT rfl rfl ?_)))))))
     refine kQ (zA rfl (zB (zV ?_)))
     refine⟨.inr rfl,_,.cons _ _ _ _ (.tmp 2) .nil,?_⟩
     exact .refl _
    |true=>
     rw[c3]at q93
     have hx2:=wg.1 c3
     have hx01:x=0∨x=1:=by omega
     have q108:=ret108 (orc:=orc) hi h f g hx01 (i:=i) (by omega)
     have q109:=ret109 (orc:=orc) hi h f g hx01 (slot:=i) (by omega)
     rw[hU,ha]at q108
     rw[hU,hf,hg,←hp,rF_hit hx01]at q109
     refine zH _ _ hs2 hst2 fun fr2=>?_
     refine kQ (kp rfl (zB (k_seq (k_cT rfl (kF (by omega)) (zL (k_seq (zI (kQ (zC rfl (yA (u:=.int .i64 (x)) rfl ty22 rfl rfl (Int.natCast_nonneg _) (by simp[hw]) cl3 ?_))))))))))
     refine kC sh3 rfl ?_
     refine zA rfl (zA rfl (zB (k_seq (kQ (zC rfl (ks rfl (zC rfl (kg rfl (kG (by omega)) ?_))))))))
     refine kg rfl (kG (by omega)) ?_
     refine kg rfl (kG (by omega)) ?_
     refine kg rfl (kG (by omega)) ?_
     refine kg rfl (kG (by omega)) ?_
     refine kg rfl (kG (by omega)) ?_
     refine kg rfl (kG (by omega)) ?_
     refine kg rfl (kG (by omega)) ?_
     refine zAO rfl rfl (kG (by omega)) ?_
     refine zB ?_
     refine zH [(1,U.box 0 0),(3,U.box 1 0),(4,U.box 2 0),(5,.int .i64 ↑i),(6,.int .i64 x),(24,.lst .ro 1 (zE p)),(25,.int .i64 ↑(List.length p)),(26,.int .i64 ↑i),(42,.bool false)] ([SB.box [.lst .ro 1 (zE (Ln.slots l)),.int .i64 (Ln.left l),.int .i64 (Ln.right l),.int .i64 (Ln.run l),.lst .ro 1 (zE p)],SB.box (zK ([a0,a1,a2,a3,a4,a5,a6,a7,a8,a9,a10,a11,a12,a13,a14,a15]++[b0,b1,b2,b3,b4,b5,b6,b7,b8,b9,b10,b11,b12,b13,b14,b15])),SB.box [U.fn 108 [Ln.u l] [],U.fn 109 [Ln.u l] []]]) (.n9 rfl) rfl fun fr=>?_
     refine k_cF rfl rfl ?_
     refine zL (k_seq (kQ (zC rfl (zN rfl (q93) (.lrefl _) (yc rfl rfl (zB (k_cF rfl rfl ?_)))))))
     refine zL (kQ (kB sh118 rfl (zC rfl (zB (zI ?_)))))
     generalize zDp l x t=z1 at*
     generalize zCI (hit p x) l.run.toNat i=z2 at*
     refine yX (fun mm s3=>∃j:Nat,mm+j=2∧(1≤j→z1=true)∧(2≤j→z2=true)∧s3.st=[.box [.lst .ro 1 (zE l.slots),.int .i64 l.left,.int .i64 l.right,.int .i64 l.run,.lst .ro 1 (zE p)],.box (zK ([a0,a1,a2,a3,a4,a5,a6,a7,a8,a9,a10,a11,a12,a13,a14,a15]++[b0,b1,b2,b3,b4,b5,b6,b7,b8,b9,b10,b11,b12,b13,b14,b15])),.box [.fn 108 [l.u] [],.fn 109 [l.u] []]]∧Holds s3 [(1,.box 0 0),(3,.box 1 0),(4,.box 2 0),(5,.int .i64 i),(6,.int .i64 x),(24,.lst .ro 1 (zE p)),(25,.int .i64 p.length),(26,.int .i64 i),(46,.agg [.fn 108 [l.u] [],.fn 109 [l.u] []]),(47,.int .i64 j)]) (fun mm s3 hJ=>?_) 2 _ ⟨0,rfl,(fun e=>by omega),(fun e=>by omega),rfl,.c4 rfl rfl rfl rfl (.n6 rfl)⟩
     obtain⟨j,hj,hz1,hz2,hst3,hs3⟩:=hJ
     have hj3:j=0∨j=1∨j=2:=by omega
     rcases hj3 with rfl|rfl|rfl
     ·cases z1 with
      |false=>
       have hz:=hno fun hc=>by rcases hSk.1 hc with ⟨e,_⟩|⟨_,e,_⟩;omega;cases e
       subst hz
       refine zH _ _ hs3 hst3 fun fr3=>?_
       refine kQ (kp rfl (zB (k_seq (k_cT rfl rfl ?_))))
       refine zL (k_seq (zI (kQ (wX rfl ty118 rfl rfl (by omega) (by omega) cl117 sh117 rfl ?_))))
       refine zA rfl (zB (kQ (zC rfl (kB sh85 rfl (zC rfl (zC rfl (wb rfl rfl q108 (.lrefl _) ?_)))))))
       refine yc rfl rfl (zB (k_cT rfl rfl ?_))
       refine kQ (zA rfl (zB (zV ?_)))
       refine⟨.inr rfl,_,.cons _ _ _ _ (.tmp 2) .nil,?_⟩
       exact .refl _
      |true=>
       refine zH _ _ hs3 hst3 fun fr3=>?_
       refine kQ (kp rfl (zB (k_seq (k_cT rfl rfl ?_))))
       refine zL (k_seq (zI (kQ (wX rfl ty118 rfl rfl (by omega) (by omega) cl117 sh117 rfl ?_))))
       refine zA rfl (zB (kQ (zC rfl (kB sh85 rfl (zC rfl (zC rfl (wb rfl rfl q108 (.lrefl _) ?_)))))))
       refine yc rfl rfl (zB (k_cF rfl rfl ?_))
       refine zL (k_region ?_)
       refine kz rfl (by unfold I64;omega) (zC rfl (zB ?_))
       exact⟨mm - 1,by omega,1,by omega,(fun _=>rfl),(fun e=>by omega),rfl,.c4 rfl rfl rfl rfl (.n6 rfl)⟩
     ·cases z2 with
      |false=>
       have hz:=hno fun hc=>by rcases hSk.1 hc with ⟨e,_⟩|⟨_,_,e⟩;omega;cases e
       subst hz
       refine zH _ _ hs3 hst3 fun fr3=>?_
       refine kQ (kp rfl (zB (k_seq (k_cT rfl rfl ?_))))
       refine zL (k_seq (zI (kQ (wX rfl ty118 rfl rfl (by omega) (by omega) cl117 sh117 rfl ?_))))
       refine zA rfl (zB (kQ (zC rfl (kB sh85 rfl (zC rfl (zC rfl (wb rfl rfl q109 (.lrefl _) ?_)))))))
       refine yc rfl rfl (zB (k_cT rfl rfl ?_))
       refine kQ (zA rfl (zB (zV ?_)))
       refine⟨.inr rfl,_,.cons _ _ _ _ (.tmp 2) .nil,?_⟩
       exact .refl _
      |true=>
       refine zH _ _ hs3 hst3 fun fr3=>?_
       refine kQ (kp rfl (zB (k_seq (k_cT rfl rfl ?_))))
       refine zL (k_seq (zI (kQ (wX rfl ty118 rfl rfl (by omega) (by omega) cl117 sh117 rfl ?_))))
       refine zA rfl (zB (kQ (zC rfl (kB sh85 rfl (zC rfl (zC rfl (wb rfl rfl q109 (.lrefl _) ?_)))))))
       refine yc rfl rfl (zB (k_cF rfl rfl ?_))
       refine zL (k_region ?_)
       refine kz rfl (by unfold I64;omega) (zC rfl (zB ?_))
       exact⟨mm - 1,by omega,2,by omega,(fun _=>hz1 (by omega)),(fun _=>rfl),rfl,.c4 rfl rfl rfl rfl (.n6 rfl)⟩
     ·have hn3:=hnx (hSk.2 (.inr ⟨hx01,hz1 (by omega),hz2 (by omega)⟩))
      refine zH _ _ hs3 hst3 fun fr3=>?_
      refine kQ (kp rfl (zB (k_seq (k_cF rfl rfl ?_))))
      refine zj (k_region ?_)
      refine kz rfl (by unfold I64;omega) (zC rfl (zB ?_))
      exact⟨kk - 1,by omega,i+1,by omega,hn3,rfl,.c4 rfl rfl rfl rfl (.n2 rfl)⟩
  ·have hz:z=true:=hsk.2 fun j hj=>hall j (by omega)
   subst hz
   refine zH _ _ hs2 hst2 fun fr2=>?_
   refine kQ (kp rfl (zB (k_seq (k_cF rfl (kG (by omega)) (zj (kQ (zA rfl (zB (zV ?_)))))))))
   refine⟨.inr rfl,_,.cons _ _ _ _ (.tmp 2) .nil,?_⟩
   exact .refl _
 ·have hz:divB l p=false:=by
   cases hz:divB l p with
   |false=>rfl
   |true=>exact absurd (zBS.1 hz).1 hp
  rw[hz]
  refine kQ (zk rfl rfl (zA rfl (zB ?_)))
  refine zH [(1,U.box 0 0)] ([SB.box [.lst .ro 1 (zE (Ln.slots l)),.int .i64 (Ln.left l),.int .i64 (Ln.right l),.int .i64 (Ln.run l),.lst .ro 1 (zE p)]]) (.n1 rfl) rfl fun fr=>?_
  refine k_seq (kQ (kw rfl fld75_1 (kA sh22 rfl (zq rfl ty22 rfl (List.length_map _) ?_))))
  refine kw rfl zFs (kw rfl yR (kw rfl zS (kA sh22 rfl (zq rfl ty22 rfl (List.length_map _) ?_))))
  refine kr rfl (zB (k_cT rfl (kF (by omega)) (kQ (zA rfl (zB (zV ?_))))))
  refine⟨.inr rfl,_,.cons _ _ _ _ (.tmp 2) .nil,?_⟩
  exact .refl _
end Go.Proofs.YthhbfbmfhldbaaaDoor.locks
