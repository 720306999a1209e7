import Derived.Test.YtlknfhjfkcboiaaDoorVamT15
set_option linter.unusedVariables false
set_option linter.unusedSimpArgs false
set_option linter.constructorNameAsVariable false
namespace Go.Proofs.YtlknfhjfkcboiaaDoor.night
open Vam
variable {is:FuncId→Bool}{orc:Known}{b:Bk}
theorem rst_rg{d:List Int}{s:Nat}:(∀x∈rstS b d s,0≤x∧x<b.scenes.length)∧(rstS b d s).length≤b.scenes.length:=⟨fun x hx=>zFs hx,zCA _ _⟩
theorem bsr_ok{d m:List Int}{j:Nat}(h:bsr b d j=some m):(∀x∈m,0≤x∧x<b.scenes.length)∧m.length≤b.scenes.length:=by
 rcases zFV (wt b) (ptB b d j)with ⟨_,h2⟩|⟨m2,h2,h3,_⟩
 ·unfold bsr at h;rw[h2]at h;cases h
 ·unfold bsr at h;rw[h2]at h;cases h
  obtain⟨s,_,rfl⟩:=List.mem_map.1 h3
  exact rst_rg
set_option maxHeartbeats 16000000 in
theorem ret64(hi:Off is)(h:BOk b){d:List Int}(hd:wZ b d=true):RetP Tryd.prog is orc 64 [b.u,.lst .ro 1 (zE d)] (.tup [.lst .ro 1 (zE ((cueO b d).getD [])),.bool (lgt b d).isSome]):=by
 have hdk:=zDe h hd
 obtain⟨hc1,hc2⟩:=bsr_cue h hd
 rw[←hc1,←hc2]
 have hn:=h.sn
 have hdl:=hdk.len
 refine zp body64 pure64 (hi 64 (by decide)) rfl rfl (zu (wU b 4) (zR 6 .ro (fun h=>by cases h) 1 d)) (.inr ⟨_,rfl,zu (k:=7) (zR 5 .ro (fun h=>by cases h) 1 _) (.bool _ _)⟩) ?_
 refine kQ (yB rfl rfl (zB rfl (zB rfl (zC ?_))))
 refine zF [(1,.lst .ro 1 (zE d)),(2,U.box 0 0)] ([SB.box (Bk.cs b)]) (.n2 rfl) rfl fun fr=>?_
 refine kQ (zB rfl (zC (k_seq (kQ (zB rfl (zC (zH ?_)))))))
 refine yR (fun kk s2=>∃i:Nat,kk+i=d.length∧s2.st=[.box (Bk.cs b)]∧Holds s2 [(1,.lst .ro 1 (zE d)),(2,.box 0 0),(6,.int .i64 (fxN d i)),(7,.int .i64 i)]) (fun kk s2 hI=>?_) d.length _ ⟨0,rfl,rfl,.c4 rfl rfl rfl rfl (.nil rfl)⟩
 obtain⟨i,hk,hst2,hs2⟩:=hI
 by_cases hin:i<d.length
 ·obtain⟨x,hx⟩:∃x,d[i]? =some x:=⟨d[i],List.getElem?_eq_getElem hin⟩
  have hlt:=fxN_lt d i
  have hp2:2 ^ i≤2 ^ 10:=Nat.pow_le_pow_right (by decide) (by omega)
  have hlx:zBL d i=decide (x= -1):=by unfold zBL;rw[hx];rfl
  have hsu:fxN d (i+1)=fxN d i+if zBL d i=true then 2 ^ i else 0:=rfl
  have hc:((2 ^ i:Nat):Int)=2 ^ i:=by push_cast;rfl
  generalize fxN d i=S at*
  refine zF _ _ hs2 hst2 fun fr2=>?_
  by_cases h1:x= -1
  ·rw[hlx,kH h1,if_pos rfl]at hsu
   refine k_seq (kQ (zA rfl (zA rfl (zP rfl ty22 rfl (List.length_map _) ?_))))
   refine kq rfl (zC (k_cT rfl (kH (by omega)) (zJ (k_seq (zH (kQ (zA rfl (zA rfl (zX (u:=.int .i64 (x)) rfl ty22 rfl rfl (Int.natCast_nonneg _) (by simp[hx]) cl3 ?_)))))))))
   refine kE sh3 rfl ?_
   refine kw rfl (zC (k_cT rfl (kH (by omega)) (k_region (zA rfl (zA rfl (zBx rfl rfl rfl (by omega) ?_))))))
   refine kB rfl (by unfold I64;omega) (zB rfl (zC ?_))
   refine zF [(1,.lst .ro 1 (zE d)),(2,U.box 0 0),(6,.int .i64 (↑S+(2:Int) ^ i)),(7,.int .i64 ↑i)] ([SB.box (Bk.cs b)]) (.n4 rfl) rfl fun fr=>?_
   refine k_region (zA rfl ?_)
   refine kB rfl (by unfold I64;omega) (zB rfl (zC ?_))
   exact⟨kk - 1,by omega,i+1,by omega,rfl,.cons rfl (.cons rfl (.cons (by rw[hsu];show U.int .i64 _=U.int .i64 _;congr 1) (.n1 rfl)))⟩
  ·rw[hlx,kI h1,if_neg (by decide),Nat.add_zero]at hsu
   refine k_seq (kQ (zA rfl (zA rfl (zP rfl ty22 rfl (List.length_map _) ?_))))
   refine kq rfl (zC (k_cT rfl (kH (by omega)) (zJ (k_seq (zH (kQ (zA rfl (zA rfl (zX (u:=.int .i64 (x)) rfl ty22 rfl rfl (Int.natCast_nonneg _) (by simp[hx]) cl3 ?_)))))))))
   refine kE sh3 rfl ?_
   refine kw rfl (zC (k_cF rfl (kI (by omega)) (zJ (k_region (zA rfl ?_)))))
   refine kB rfl (by unfold I64;omega) (zB rfl (zC ?_))
   exact⟨kk - 1,by omega,i+1,by omega,rfl,.cons rfl (.cons rfl (.cons (by rw[hsu];rfl) (.n1 rfl)))⟩
 ·have hie:i=d.length:=by omega
  subst hie
  have hfl:=fxN_lt d d.length
  have hp2:2 ^ d.length≤2 ^ 10:=Nat.pow_le_pow_right (by decide) (by omega)
  have hpn:2 ^ b.scenes.length≤2 ^ 10:=Nat.pow_le_pow_right (by decide) (by omega)
  obtain⟨F,hF⟩:∃F,F=fxN d d.length:=⟨_,rfl⟩
  rw[←hF]at hs2 hfl
  have hcn:((2 ^ b.scenes.length:Nat):Int)=2 ^ b.scenes.length:=by push_cast;rfl
  have hcd:((2 ^ d.length:Nat):Int)=2 ^ d.length:=by push_cast;rfl
  refine zF _ _ hs2 hst2 fun fr2=>?_
  refine k_seq (kQ (zA rfl (zA rfl (zP rfl ty22 rfl (List.length_map _) ?_))))
  refine kq rfl (zC (k_cF rfl (kI (by omega)) (zr (kQ (zB rfl (zC (kQ (zB rfl (zC (k_seq (kQ ?_)))))))))))
  refine o_weak 8 rfl (fun _=>rfl) (u:=.lst .ro 1 (zE [])) (.nil _ _ _) ?_
  refine zB rfl (zC (zH ?_))
  refine yR (fun kk s3=>∃j:Nat,kk+j=2 ^ b.scenes.length∧s3.st=[.box (Bk.cs b)]∧Holds s3 [(1,.lst .ro 1 (zE d)),(2,.box 0 0),(6,.int .i64 F),(8,.lst .ro 1 (zE ((bsr b d j).getD []))),(9,.bool (bsr b d j).isSome),(10,.int .i64 j)]) (fun kk s3 hI=>?_) (2 ^ b.scenes.length) _ ⟨0,rfl,rfl,.c4 rfl rfl rfl rfl (.n2 rfl)⟩
  obtain⟨j,hkj,hst3,hs3⟩:=hI
  have hsu:=bsr_succ b d j
  by_cases hjn:j<2 ^ b.scenes.length
  ·have hm1:((j:Int)<2 ^ b.scenes.length):=by rw[←hcn];exact_mod_cast hjn
   have hA:anZ (j:Int) (2 ^ d.length - 1)=((j % 2 ^ d.length:Nat):Int):=by
    have e:(2:Int) ^ d.length - 1=((2 ^ d.length - 1:Nat):Int):=by rw[←hcd];have:=Nat.one_le_two_pow (n:=d.length);omega
    rw[e,anZ_nat (by omega) (by omega) (by omega),Nat.and_two_pow_sub_one_eq_mod]
   have hfb:fixB d j=decide (j % 2 ^ d.length=F):=by unfold fixB;rw[hF]
   have hlk:lokS b d j=(fixB d j&&(chF b (-1) (memP (bt j) b.scenes.length)&&fitB b d (memP (bt j) b.scenes.length))):=rfl
   have q85:=ret85 (orc:=orc) hi (s:=j) (n:=b.scenes.length) (by omega) (by omega)
   have q53:=ret53 (orc:=orc) hi h (memP (bt j) b.scenes.length)
   have q59:=ret59 (orc:=orc) hi h hdk (s:=j) (L:=memP (bt j) b.scenes.length) (by omega) (fun i hi=>mem_P hi)
   have hfx:lokS b d j=true→fixB d j=true:=fun hl=>by rw[hlk,Bool.and_eq_true]at hl;exact hl.1
   have hrb:=fun hz=>rst_bt (b:=b) (d:=d) (s:=j) hz
   obtain⟨r1,r2⟩:=rst_rg (b:=b) (d:=d) (s:=j)
   have hbo:=fun m=>bsr_ok (b:=b) (d:=d) (m:=m) (j:=j)
   generalize rstS b d j=r at*
   generalize bsr b d j=o at*
   generalize memP (bt j) b.scenes.length=L at*
   have ho1:(∀x∈o.getD [],0≤x∧x<b.scenes.length)∧(o.getD []).length≤b.scenes.length:=by
    cases o with
    |none=>exact⟨(fun x hx=>by cases hx),Nat.zero_le _⟩
    |some m=>exact hbo m rfl
   refine zF _ _ hs3 hst3 fun fr3=>?_
   refine k_seq (kQ (zA rfl (kA rfl ze (kC sh23 rfl (zP rfl ty23 rfl (List.length_map _) ?_)))))
   refine zBx rfl rfl rfl (by omega) ?_
   refine kq rfl (zC (k_cT rfl (kH (by omega)) (zJ (k_seq (zH ?_)))))
   refine zF [(1,.lst .ro 1 (zE d)),(2,.box 0 0),(6,.int .i64 F),(8,.lst .ro 1 (zE (o.getD []))),(9,.bool o.isSome),(10,.int .i64 j)] [.box (Bk.cs b)] (.n6 rfl) rfl fun fr4=>?_
   refine k_seq ?_
   refine k_cut (fun st=>st.st=[.box (Bk.cs b)]∧Holds st [(1,.lst .ro 1 (zE d)),(2,.box 0 0),(6,.int .i64 F),(8,.lst .ro 1 (zE (o.getD []))),(9,.bool o.isSome),(10,.int .i64 j),(61,.bool !lokS b d j)]) ?_ (fun st hM=>?_)
   ·cases z1:fixB d j with
    |false=>
     have k44:decide (anZ (j:Int) (2 ^ d.length - 1)≠(F:Int))=true:=by
      rw[hA];rw[hfb]at z1;have:=of_decide_eq_false z1;exact kH (by omega)
     rw[z1,Bool.false_and]at hlk
     rw[hlk]
     refine wH [.plain,.plain,.plain,.plain,.plain,.plain,.plain,.plain,.plain,.read true,.plain,.plain,.read true,.read true,.quiet,.plain,.plain,.plain,.plain,.plain,.plain,.plain,.plain,.plain,.plain] (by kernel_rfl) (by kernel_rfl) (by kernel_rfl) ?_
     refine zD (zA rfl (zC rfl)) (zD (zA rfl (zC rfl)) (zD (zP rfl ty22 rfl (List.length_map _) (zC rfl)) ?_))
     refine zD (zBx rfl rfl rfl (by omega) (zC rfl)) ?_
     refine zD (o_sub rfl rfl rfl (by unfold I64;omega) (zC rfl)) ?_
     refine zD (o_anZ rfl rfl rfl (zC rfl)) ?_
     refine zD (zA rfl (zC rfl)) (zD (ku rfl (zC rfl)) ?_)
     refine zD (zA rfl (zC rfl)) ?_
     refine yY [(1,.lst .ro 1 (zE d)),(2,U.box 0 0),(6,.int .i64 ↑F),(8,.lst .ro 1 (zE (Option.getD o []))),(9,U.bool (Option.isSome o)),(10,.int .i64 ↑j),(45,U.bool (decide (anZ (↑j) ((2:Int) ^ List.length d - (1:Int))≠ ↑F)))] [] ([SB.box (Bk.cs b)]) (.n7 rfl) rfl rfl fun fr=>?_
     refine km rfl (by assumption) ?_
     refine km rfl (by assumption) ?_
     refine km rfl (by assumption) ?_
     refine km rfl (by assumption) ?_
     refine km rfl (by assumption) ?_
     refine km rfl (by assumption) ?_
     refine km rfl (by assumption) ?_
     refine km rfl (by assumption) ?_
     refine zD (zc rfl rfl (by assumption) (zC rfl)) ?_
     refine yY [(1,.lst .ro 1 (zE d)),(2,U.box 0 0),(6,.int .i64 ↑F),(8,.lst .ro 1 (zE (Option.getD o []))),(9,U.bool (Option.isSome o)),(10,.int .i64 ↑j),(46,U.tup []),(47,U.tup []),(48,U.tup []),(49,U.tup []),(50,U.tup []),(51,U.tup []),(52,U.tup []),(53,U.tup []),(54,.bool true)] [] ([SB.box (Bk.cs b)]) (.c4 rfl rfl rfl rfl (.c4 rfl rfl rfl rfl (.n7 rfl))) rfl rfl fun fr=>?_
     refine zD (zA rfl (zC rfl)) (kj rfl (kj rfl (kj rfl (kj rfl (kj rfl (zD (kG rfl (zC rfl)) ?_))))))
     refine zAo ?_
     exact⟨rfl,rfl,.c4 rfl rfl rfl rfl (.n3 rfl)⟩
    |true=>
     have k44:decide (anZ (j:Int) (2 ^ d.length - 1)≠(F:Int))=false:=by
      rw[hfb]at z1;rw[hA,of_decide_eq_true z1];exact kI (by omega)
     rw[z1,Bool.true_and]at hlk
     cases z2:chF b (-1) L with
     |false=>
      rw[z2]at q53 hlk
      rw[Bool.false_and]at hlk
      rw[hlk]
      refine wH [.plain,.plain,.plain,.plain,.plain,.plain,.plain,.plain,.plain,.read true,.plain,.plain,.read true,.read true,.quiet,.plain,.plain,.plain,.plain,.plain,.plain,.plain,.plain,.plain,.plain] (by kernel_rfl) (by kernel_rfl) (by kernel_rfl) ?_
      refine zD (zA rfl (zC rfl)) (zD (zA rfl (zC rfl)) (zD (zP rfl ty22 rfl (List.length_map _) (zC rfl)) ?_))
      refine zD (zBx rfl rfl rfl (by omega) (zC rfl)) ?_
      refine zD (o_sub rfl rfl rfl (by unfold I64;omega) (zC rfl)) ?_
      refine zD (o_anZ rfl rfl rfl (zC rfl)) ?_
      refine zD (zA rfl (zC rfl)) (zD (ku rfl (zC rfl)) ?_)
      refine zD (zA rfl (zC rfl)) ?_
      refine yY [(1,.lst .ro 1 (zE d)),(2,U.box 0 0),(6,.int .i64 ↑F),(8,.lst .ro 1 (zE (Option.getD o []))),(9,U.bool (Option.isSome o)),(10,.int .i64 ↑j),(45,U.bool (decide (anZ (↑j) ((2:Int) ^ List.length d - (1:Int))≠ ↑F)))] [] ([SB.box (Bk.cs b)]) (.n7 rfl) rfl rfl fun fr=>?_
      refine kn rfl (by assumption) ?_
      refine yY [(1,.lst .ro 1 (zE d)),(2,U.box 0 0),(6,.int .i64 ↑F),(8,.lst .ro 1 (zE (Option.getD o []))),(9,U.bool (Option.isSome o)),(10,.int .i64 ↑j),(45,U.bool (decide (anZ (↑j) ((2:Int) ^ List.length d - (1:Int))≠ ↑F)))] [] ([SB.box (Bk.cs b)]) (.n7 rfl) rfl rfl fun fr=>?_
      refine zV rfl (kD sh25 rfl (zC rfl)) ?_
      refine kn rfl (by assumption) ?_
      refine zD (zA rfl (zC rfl)) (kn rfl (by assumption) ?_)
      refine zD (kA rfl ze (zC rfl)) ?_
      refine kn rfl (by assumption) ?_
      refine zV rfl (kC sh23 rfl (zC rfl)) (kn rfl (by assumption) ?_)
      refine zV rfl (zP rfl ty23 rfl (List.length_map _) (zC rfl)) ?_
      refine kn rfl (by assumption) ?_
      refine zGK rfl (q85) (.lrefl _) ?_
      refine kn rfl (by assumption) ?_
      refine zD (zG rfl (q53) (.lrefl _) (zC rfl)) ?_
      refine kn rfl (by assumption) ?_
      refine zD (zh rfl rfl (zC rfl)) ?_
      refine zD (zW rfl rfl (by assumption) (zC rfl)) ?_
      refine yY [(1,.lst .ro 1 (zE d)),(2,U.box 0 0),(6,.int .i64 ↑F),(8,.lst .ro 1 (zE (Option.getD o []))),(9,U.bool (Option.isSome o)),(10,.int .i64 ↑j),(46,U.agg (Bk.cs b)),(47,.int .i64 ↑j),(48,U.box 0 3),(49,.lst .ro 5 (scsU (Bk.scenes b))),(50,.int .i64 ↑(List.length (Bk.scenes b))),(51,.lst .ro 1 (zE L)),(52,.bool false),(53,U.bool !Bool.false),(54,U.bool !Bool.false)] [] ([SB.box (Bk.cs b)]) (.c4 rfl rfl rfl rfl (.c4 rfl rfl rfl rfl (.n7 rfl))) rfl rfl fun fr=>?_
      refine zD (zA rfl (zC rfl)) (kj rfl (kj rfl (kj rfl (kj rfl (kj rfl (zD (kG rfl (zC rfl)) ?_))))))
      refine zAo ?_
      exact⟨rfl,rfl,.c4 rfl rfl rfl rfl (.n3 rfl)⟩
     |true=>
      rw[z2]at q53 hlk
      rw[Bool.true_and]at hlk
      rw[hlk]
      generalize fitB b d L=f at*
      refine wH [.plain,.plain,.plain,.plain,.plain,.plain,.plain,.plain,.plain,.read true,.plain,.plain,.read true,.read true,.quiet,.plain,.plain,.plain,.plain,.plain,.plain,.plain,.plain,.plain,.plain] (by kernel_rfl) (by kernel_rfl) (by kernel_rfl) ?_
      refine zD (zA rfl (zC rfl)) (zD (zA rfl (zC rfl)) (zD (zP rfl ty22 rfl (List.length_map _) (zC rfl)) ?_))
      refine zD (zBx rfl rfl rfl (by omega) (zC rfl)) ?_
      refine zD (o_sub rfl rfl rfl (by unfold I64;omega) (zC rfl)) ?_
      refine zD (o_anZ rfl rfl rfl (zC rfl)) ?_
      refine zD (zA rfl (zC rfl)) (zD (ku rfl (zC rfl)) ?_)
      refine zD (zA rfl (zC rfl)) ?_
      refine yY [(1,.lst .ro 1 (zE d)),(2,U.box 0 0),(6,.int .i64 ↑F),(8,.lst .ro 1 (zE (Option.getD o []))),(9,U.bool (Option.isSome o)),(10,.int .i64 ↑j),(45,U.bool (decide (anZ (↑j) ((2:Int) ^ List.length d - (1:Int))≠ ↑F)))] [] ([SB.box (Bk.cs b)]) (.n7 rfl) rfl rfl fun fr=>?_
      refine kn rfl (by assumption) ?_
      refine yY [(1,.lst .ro 1 (zE d)),(2,U.box 0 0),(6,.int .i64 ↑F),(8,.lst .ro 1 (zE (Option.getD o []))),(9,U.bool (Option.isSome o)),(10,.int .i64 ↑j),(45,U.bool (decide (anZ (↑j) ((2:Int) ^ List.length d - (1:Int))≠ ↑F)))] [] ([SB.box (Bk.cs b)]) (.n7 rfl) rfl rfl fun fr=>?_
      refine zV rfl (kD sh25 rfl (zC rfl)) ?_
      refine kn rfl (by assumption) ?_
      refine zD (zA rfl (zC rfl)) (kn rfl (by assumption) ?_)
      refine zD (kA rfl ze (zC rfl)) ?_
      refine kn rfl (by assumption) ?_
      refine zV rfl (kC sh23 rfl (zC rfl)) (kn rfl (by assumption) ?_)
      refine zV rfl (zP rfl ty23 rfl (List.length_map _) (zC rfl)) ?_
      refine kn rfl (by assumption) ?_
      refine zGK rfl (q85) (.lrefl _) ?_
      refine kn rfl (by assumption) ?_
      refine zD (zG rfl (q53) (.lrefl _) (zC rfl)) ?_
      refine kn rfl (by assumption) ?_
      refine zD (zh rfl rfl (zC rfl)) ?_
      refine zD (zW rfl rfl (by assumption) (zC rfl)) ?_
      refine yY [(1,.lst .ro 1 (zE d)),(2,U.box 0 0),(6,.int .i64 ↑F),(8,.lst .ro 1 (zE (Option.getD o []))),(9,U.bool (Option.isSome o)),(10,.int .i64 ↑j),(46,U.agg (Bk.cs b)),(47,.int .i64 ↑j),(48,U.box 0 3),(49,.lst .ro 5 (scsU (Bk.scenes b))),(50,.int .i64 ↑(List.length (Bk.scenes b))),(51,.lst .ro 1 (zE L)),(52,.bool true),(53,U.bool !Bool.true),(54,U.bool !Bool.true)] [] ([SB.box (Bk.cs b)]) (.c4 rfl rfl rfl rfl (.c4 rfl rfl rfl rfl (.n7 rfl))) rfl rfl fun fr=>?_
      refine zD (zA rfl (zC rfl)) (kl rfl (zD (kD sh25 rfl (zC rfl)) ?_))
      refine kl rfl (zD (zA rfl (zC rfl)) (kl rfl (zD (zA rfl (zC rfl)) (kl rfl (zD (zG rfl (q59) (.lrefl _) (zC rfl)) ?_)))))
      refine kl rfl (zD (zh rfl rfl (zC rfl)) ?_)
      refine zD (kF rfl (zC rfl)) ?_
      refine zAo ?_
      exact⟨rfl,rfl,.c4 rfl rfl rfl rfl (.n3 rfl)⟩
   obtain⟨hst4,hs4⟩:=hM
   cases hl:lokS b d j with
   |false=>
    rw[hl]at hs4
    rw[hl,if_neg (by decide)]at hsu
    refine zF _ _ hs4 hst4 fun fr5=>?_
    refine k_cT rfl rfl ?_
    refine zr (k_region (zA rfl ?_))
    refine kB rfl (by unfold I64;omega) (zB rfl (zC ?_))
    exact⟨kk - 1,by omega,j+1,by omega,rfl,.cons rfl (.cons rfl (.cons rfl (.cons (by rw[hsu];rfl) (.cons (by rw[hsu];rfl) (.n1 rfl)))))⟩
   |true=>
    rw[hl]at hs4
    rw[hl,if_pos rfl]at hsu
    have z1:=hfx hl
    have hmod:j % 2 ^ d.length=F:=by rw[hfb]at z1;exact of_decide_eq_true z1
    have hFj:F≤j:=by rw[←hmod];exact Nat.mod_le _ _
    have hrb:=hrb z1
    rw[←hF]at hrb
    have q85b:RetP Tryd.prog is orc 85 [.int .i64 ((j:Int) - F),.int .i64 b.scenes.length] (.lst .ro 1 (zE r)):=by
     have:=ret85 (orc:=orc) hi (s:=j - F) (n:=b.scenes.length) (by omega) (by omega)
     rw[hrb,show((j - F:Nat):Int)=(j:Int) - F by omega]at this;exact this
    have q86a:=ret86 (orc:=orc) hi h (L:=r) (by omega) r1
    have q86b:=ret86 (orc:=orc) hi h (L:=o.getD []) (by omega) ho1.1
    have w1:=wt_sb h r
    have w2:=wt_sb h (o.getD [])
    have q37:=ret37 (orc:=orc) hi r (o.getD []) (by omega) (by omega)
    have hlt:ltB (wt b) r (o.getD [])=(decide (wt b r<wt b (o.getD []))||(decide (wt b r=wt b (o.getD []))&&(decide (r.length<(o.getD []).length)||(decide (r.length=(o.getD []).length)&&zAf r (o.getD []))))):=rfl
    have hsb:bsr b d (j+1)=if(!o.isSome||ltB (wt b) r (o.getD []))=true then some r else o:=by
     rw[hsu]
     cases o with
     |none=>rfl
     |some m=>rfl
    clear hsu hbo ho1
    obtain⟨M,hM⟩:∃M,M=o.getD []:=⟨_,rfl⟩
    rw[←hM]at hs4 hlt q86b w2 q37 hsb
    obtain⟨z,hz⟩:∃z,z=o.isSome:=⟨_,rfl⟩
    rw[←hz]at hs4 hsb
    generalize wt b r=W1 at*
    generalize wt b M=W2 at*
    refine zF _ _ hs4 hst4 fun fr5=>?_
    have hI:I64 ((j:Int) - F):=by unfold I64;omega
    refine k_cF rfl rfl ?_
    refine zJ (kQ (zA rfl (zA rfl ?_)))
    refine o_sub rfl rfl rfl (by unfold I64;omega) (kA rfl ze (kC sh23 rfl (zP rfl ty23 rfl (List.length_map _) ?_)))
    refine zG rfl (q85b) (.lrefl _) (zB rfl (zC (k_seq (wH [.read true,.plain,.read false,.read true,.plain,.plain,.plain,.plain] (by kernel_rfl) (by kernel_rfl) (by kernel_rfl) ?_))))
    refine zV rfl (kD sh25 rfl (zC rfl)) ?_
    refine zD (zA rfl (zC rfl)) (zDf rfl (q86a) (.int _ _) (.lrefl _) ?_)
    refine zV rfl (kD sh25 rfl (zC rfl)) ?_
    refine zD (zA rfl (zC rfl)) (zD (zG rfl (q86b) (.lrefl _) (zC rfl)) ?_)
    refine zD (zB rfl (zC rfl)) ?_
    refine zD (zB rfl (zC rfl)) ?_
    refine zAo ?_
    refine zF [(1,.lst .ro 1 (zE d)),(2,U.box 0 0),(6,.int .i64 ↑F),(8,.lst .ro 1 (zE M)),(9,U.bool z),(10,.int .i64 ↑j),(11,.lst .ro 1 (zE r)),(12,.int .i64 W1),(13,.int .i64 W2)] ([SB.box (Bk.cs b)]) (.n9 rfl) rfl fun fr=>?_
    refine k_cut (fun st=>st.st=[.box (Bk.cs b)]∧Holds st [(1,.lst .ro 1 (zE d)),(2,.box 0 0),(6,.int .i64 F),(8,.lst .ro 1 (zE M)),(9,.bool z),(10,.int .i64 j),(11,.lst .ro 1 (zE r)),(105,.bool (!z||ltB (wt b) r M))]) ?_ (fun st hM2=>?_)
    ·refine zF [(1,.lst .ro 1 (zE d)),(2,.box 0 0),(6,.int .i64 F),(8,.lst .ro 1 (zE M)),(9,.bool z),(10,.int .i64 j),(11,.lst .ro 1 (zE r)),(12,.int .i64 W1),(13,.int .i64 W2)] [.box (Bk.cs b)] (.n9 rfl) rfl fun fr6=>?_
     rw[hlt]
     cases z with
     |false=>
      refine k_region (zA rfl (zh rfl rfl (zA rfl (ke rfl (ke rfl (ke rfl (kG rfl ?_)))))))
      refine zA rfl (ke rfl ?_)
      refine zL [(1,.lst .ro 1 (zE d)),(2,U.box 0 0),(6,.int .i64 ↑F),(8,.lst .ro 1 (zE M)),(9,.bool false),(10,.int .i64 ↑j),(11,.lst .ro 1 (zE r)),(13,.int .i64 W2),(78,U.tup []),(79,U.tup []),(80,U.tup []),(82,.bool true),(83,U.tup [])] [] ([SB.box (Bk.cs b)]) (.c4 rfl rfl rfl rfl (.n9 rfl)) rfl rfl fun fr=>?_
      refine ke rfl (ke rfl (ke rfl (yD rfl rfl rfl rfl ?_)))
      refine yD rfl rfl rfl rfl ?_
      refine yD rfl rfl rfl rfl ?_
      refine yD rfl rfl rfl rfl ?_
      refine yD rfl rfl rfl rfl ?_
      refine yD rfl rfl rfl rfl ?_
      refine zL [(1,.lst .ro 1 (zE d)),(2,U.box 0 0),(6,.int .i64 ↑F),(8,.lst .ro 1 (zE M)),(9,.bool false),(10,.int .i64 ↑j),(11,.lst .ro 1 (zE r)),(78,U.tup []),(79,U.tup []),(80,U.tup []),(82,.bool true),(83,U.tup []),(84,U.tup []),(85,U.tup []),(86,U.tup []),(87,U.tup []),(88,U.tup []),(89,U.tup []),(90,U.tup []),(91,U.tup []),(92,U.tup [])] [] ([SB.box (Bk.cs b)]) (.c4 rfl rfl rfl rfl (.c4 rfl rfl rfl rfl (.c4 rfl rfl rfl rfl (.n9 rfl)))) rfl rfl fun fr=>?_
      refine yD rfl rfl rfl rfl ?_
      refine yD rfl rfl rfl rfl ?_
      refine yD rfl rfl rfl rfl ?_
      refine yD rfl rfl rfl rfl ?_
      refine yD rfl rfl rfl rfl ?_
      refine yD rfl rfl rfl rfl ?_
      refine yD rfl rfl rfl rfl ?_
      refine yD rfl rfl rfl rfl ?_
      refine yD rfl rfl rfl rfl ?_
      refine zL [(1,.lst .ro 1 (zE d)),(2,U.box 0 0),(6,.int .i64 ↑F),(8,.lst .ro 1 (zE M)),(9,.bool false),(10,.int .i64 ↑j),(11,.lst .ro 1 (zE r)),(78,U.tup []),(79,U.tup []),(80,U.tup []),(82,.bool true),(83,U.tup []),(84,U.tup []),(85,U.tup []),(86,U.tup []),(87,U.tup []),(88,U.tup []),(89,U.tup []),(90,U.tup []),(91,U.tup []),(92,U.tup []),(93,U.tup []),(94,U.tup []),(95,U.tup []),(96,U.tup []),(97,U.tup []),(98,U.tup []),(99,U.tup []),(100,U.tup []),(101,U.tup [])] [] ([SB.box (Bk.cs b)]) (.c4 rfl rfl rfl rfl (.c4 rfl rfl rfl rfl (.c4 rfl rfl rfl rfl (.c4 rfl rfl rfl rfl (.c4 rfl rfl rfl rfl (.n10 rfl)))))) rfl rfl fun fr=>?_
      refine yD rfl rfl rfl rfl ?_
      refine yD rfl rfl rfl rfl ?_
      refine ke rfl (kG rfl ?_)
      refine zC ?_
      exact⟨rfl,rfl,.c4 rfl rfl rfl rfl (.n4 rfl)⟩
     |true=>
      by_cases a1:W1<W2
      ·rw[kH a1,Bool.true_or]
       refine k_region (zA rfl (zh rfl rfl (zA rfl (kf rfl (zA rfl (kf rfl (zA rfl (kf rfl (kq rfl (kF rfl ?_))))))))))
       refine zA rfl (kg rfl (kH (by omega)) ?_)
       refine zL [(1,.lst .ro 1 (zE d)),(2,U.box 0 0),(6,.int .i64 ↑F),(8,.lst .ro 1 (zE M)),(9,.bool true),(10,.int .i64 ↑j),(11,.lst .ro 1 (zE r)),(13,.int .i64 W2),(78,.int .i64 W1),(79,.int .i64 W2),(80,U.bool (decide (W1<W2))),(82,U.bool (decide (W1<W2))),(83,U.tup [])] [] ([SB.box (Bk.cs b)]) (.c4 rfl rfl rfl rfl (.n9 rfl)) rfl rfl fun fr=>?_
       refine kg rfl (kH (by omega)) (kg rfl (kH (by omega)) (kg rfl (kH (by omega)) (yD rfl rfl rfl rfl ?_)))
       refine yD rfl rfl rfl rfl ?_
       refine yD rfl rfl rfl rfl ?_
       refine yD rfl rfl rfl rfl ?_
       refine yD rfl rfl rfl rfl ?_
       refine yD rfl rfl rfl rfl ?_
       refine zL [(1,.lst .ro 1 (zE d)),(2,U.box 0 0),(6,.int .i64 ↑F),(8,.lst .ro 1 (zE M)),(9,.bool true),(10,.int .i64 ↑j),(11,.lst .ro 1 (zE r)),(78,.int .i64 W1),(79,.int .i64 W2),(80,U.bool (decide (W1<W2))),(82,U.bool (decide (W1<W2))),(83,U.tup []),(84,U.tup []),(85,U.tup []),(86,U.tup []),(87,U.tup []),(88,U.tup []),(89,U.tup []),(90,U.tup []),(91,U.tup []),(92,U.tup [])] [] ([SB.box (Bk.cs b)]) (.c4 rfl rfl rfl rfl (.c4 rfl rfl rfl rfl (.c4 rfl rfl rfl rfl (.n9 rfl)))) rfl rfl fun fr=>?_
       refine yD rfl rfl rfl rfl ?_
       refine yD rfl rfl rfl rfl ?_
       refine yD rfl rfl rfl rfl ?_
       refine yD rfl rfl rfl rfl ?_
       refine yD rfl rfl rfl rfl ?_
       refine yD rfl rfl rfl rfl ?_
       refine yD rfl rfl rfl rfl ?_
       refine yD rfl rfl rfl rfl ?_
       refine yD rfl rfl rfl rfl ?_
       refine zL [(1,.lst .ro 1 (zE d)),(2,U.box 0 0),(6,.int .i64 ↑F),(8,.lst .ro 1 (zE M)),(9,.bool true),(10,.int .i64 ↑j),(11,.lst .ro 1 (zE r)),(78,.int .i64 W1),(79,.int .i64 W2),(80,U.bool (decide (W1<W2))),(82,U.bool (decide (W1<W2))),(83,U.tup []),(84,U.tup []),(85,U.tup []),(86,U.tup []),(87,U.tup []),(88,U.tup []),(89,U.tup []),(90,U.tup []),(91,U.tup []),(92,U.tup []),(93,U.tup []),(94,U.tup []),(95,U.tup []),(96,U.tup []),(97,U.tup []),(98,U.tup []),(99,U.tup []),(100,U.tup []),(101,U.tup [])] [] ([SB.box (Bk.cs b)]) (.c4 rfl rfl rfl rfl (.c4 rfl rfl rfl rfl (.c4 rfl rfl rfl rfl (.c4 rfl rfl rfl rfl (.c4 rfl rfl rfl rfl (.n10 rfl)))))) rfl rfl fun fr=>?_
       refine yD rfl rfl rfl rfl ?_
       refine yD rfl rfl rfl rfl ?_
       refine kg rfl (kH (by omega)) (zc rfl rfl (kH (by omega)) ?_)
       refine zC ?_
       exact⟨rfl,rfl,.c4 rfl rfl rfl rfl (.n4 rfl)⟩
      ·rw[kI a1,Bool.false_or]
       by_cases a2:W1=W2
       ·rw[kH a2,Bool.true_and]
        by_cases a3:r.length<M.length
        ·rw[kH a3,Bool.true_or]
         refine k_region (zA rfl (zh rfl rfl (zA rfl (kf rfl (zA rfl (kf rfl (zA rfl (kf rfl (kq rfl (kF rfl ?_))))))))))
         refine zA rfl (kh rfl (kI (by omega)) (zA rfl ?_))
         refine zL [(1,.lst .ro 1 (zE d)),(2,U.box 0 0),(6,.int .i64 ↑F),(8,.lst .ro 1 (zE M)),(9,.bool true),(10,.int .i64 ↑j),(11,.lst .ro 1 (zE r)),(13,.int .i64 W2),(78,.int .i64 W1),(79,.int .i64 W2),(80,U.bool (decide (W1<W2))),(82,U.bool (decide (W1<W2))),(83,.int .i64 W1)] [] ([SB.box (Bk.cs b)]) (.c4 rfl rfl rfl rfl (.n9 rfl)) rfl rfl fun fr=>?_
         refine kh rfl (kI (by omega)) ?_
         refine zL [(1,.lst .ro 1 (zE d)),(2,U.box 0 0),(6,.int .i64 ↑F),(8,.lst .ro 1 (zE M)),(9,.bool true),(10,.int .i64 ↑j),(11,.lst .ro 1 (zE r)),(13,.int .i64 W2),(78,.int .i64 W1),(79,.int .i64 W2),(80,U.bool (decide (W1<W2))),(82,U.bool (decide (W1<W2))),(83,.int .i64 W1)] [] ([SB.box (Bk.cs b)]) (.c4 rfl rfl rfl rfl (.n9 rfl)) rfl rfl fun fr=>?_
         refine zA rfl (kh rfl (kI (by omega)) (kw rfl (kh rfl (kI (by omega)) (zA rfl (kh rfl (kH (by omega)) ?_)))))
         refine zA rfl (kh rfl (kH (by omega)) ?_)
         refine zP rfl ty22 rfl (List.length_map _) ?_
         refine kh rfl (kH (by omega)) ?_
         refine zA rfl (kh rfl (kH (by omega)) ?_)
         refine zP rfl ty22 rfl (List.length_map _) ?_
         refine kh rfl (kH (by omega)) ?_
         refine kq rfl (kh rfl (kH (by omega)) ?_)
         refine zA rfl (kg rfl (kH (by omega)) (kg rfl (kH (by omega)) (kg rfl (kH (by omega)) (kg rfl (kH (by omega)) (kg rfl (kH (by omega)) (kg rfl (kH (by omega)) (yD rfl rfl rfl rfl ?_)))))))
         refine yD rfl rfl rfl rfl ?_
         refine yD rfl rfl rfl rfl ?_
         refine kg rfl (kH (by omega)) (kh rfl (kH (by omega)) ?_)
         refine zc rfl rfl (kH (by omega)) ?_
         refine kh rfl (kI (by omega)) (zc rfl rfl (kH (by omega)) ?_)
         refine zW rfl rfl (kI (by omega)) ?_
         refine zC ?_
         exact⟨rfl,rfl,.c4 rfl rfl rfl rfl (.n4 rfl)⟩
        ·rw[kI a3,Bool.false_or]
         by_cases a4:r.length=M.length
         ·rw[kH a4,Bool.true_and]
          generalize zAf r M=v at*
          refine k_region (zA rfl (zh rfl rfl (zA rfl (kf rfl (zA rfl (kf rfl (zA rfl (kf rfl (kq rfl (kF rfl ?_))))))))))
          refine zA rfl (kh rfl (kI (by omega)) (zA rfl ?_))
          refine zL [(1,.lst .ro 1 (zE d)),(2,U.box 0 0),(6,.int .i64 ↑F),(8,.lst .ro 1 (zE M)),(9,.bool true),(10,.int .i64 ↑j),(11,.lst .ro 1 (zE r)),(13,.int .i64 W2),(78,.int .i64 W1),(79,.int .i64 W2),(80,U.bool (decide (W1<W2))),(82,U.bool (decide (W1<W2))),(83,.int .i64 W1)] [] ([SB.box (Bk.cs b)]) (.c4 rfl rfl rfl rfl (.n9 rfl)) rfl rfl fun fr=>?_
          refine kh rfl (kI (by omega)) ?_
          refine zL [(1,.lst .ro 1 (zE d)),(2,U.box 0 0),(6,.int .i64 ↑F),(8,.lst .ro 1 (zE M)),(9,.bool true),(10,.int .i64 ↑j),(11,.lst .ro 1 (zE r)),(13,.int .i64 W2),(78,.int .i64 W1),(79,.int .i64 W2),(80,U.bool (decide (W1<W2))),(82,U.bool (decide (W1<W2))),(83,.int .i64 W1)] [] ([SB.box (Bk.cs b)]) (.c4 rfl rfl rfl rfl (.n9 rfl)) rfl rfl fun fr=>?_
          refine zA rfl (kh rfl (kI (by omega)) (kw rfl (kh rfl (kI (by omega)) (zA rfl (kh rfl (kH (by omega)) ?_)))))
          refine zA rfl (kh rfl (kH (by omega)) ?_)
          refine zP rfl ty22 rfl (List.length_map _) ?_
          refine kh rfl (kH (by omega)) ?_
          refine zA rfl (kh rfl (kH (by omega)) ?_)
          refine zP rfl ty22 rfl (List.length_map _) ?_
          refine kh rfl (kH (by omega)) ?_
          refine kq rfl (kh rfl (kH (by omega)) ?_)
          refine zA rfl (kh rfl (kI (by omega)) (zA rfl (kh rfl (kI (by omega)) (zP rfl ty22 rfl (List.length_map _) ?_))))
          refine kh rfl (kI (by omega)) (zA rfl (kh rfl (kI (by omega)) (zP rfl ty22 rfl (List.length_map _) ?_)))
          refine kh rfl (kI (by omega)) (kw rfl (kh rfl (kI (by omega)) (zA rfl (kh rfl (kH (by omega)) ?_))))
          refine zA rfl (kh rfl (kH (by omega)) ?_)
          refine zA rfl (kh rfl (kH (by omega)) ?_)
          refine zG rfl (q37) (.lrefl _) (kh rfl (kI (by omega)) (zc rfl rfl (kH (by omega)) ?_))
          refine kh rfl (kH (by omega)) ?_
          refine zW rfl rfl (kI (by omega)) ?_
          refine kh rfl (kI (by omega)) (zc rfl rfl (kH (by omega)) ?_)
          refine zW rfl rfl (kI (by omega)) ?_
          refine zC ?_
          exact⟨rfl,rfl,.c4 rfl rfl rfl rfl (.n4 rfl)⟩
         ·rw[kI a4,Bool.false_and]
          refine k_region (zA rfl (zh rfl rfl (zA rfl (kf rfl (zA rfl (kf rfl (zA rfl (kf rfl (kq rfl (kF rfl ?_))))))))))
          refine zA rfl (kh rfl (kI (by omega)) (zA rfl ?_))
          refine zL [(1,.lst .ro 1 (zE d)),(2,U.box 0 0),(6,.int .i64 ↑F),(8,.lst .ro 1 (zE M)),(9,.bool true),(10,.int .i64 ↑j),(11,.lst .ro 1 (zE r)),(13,.int .i64 W2),(78,.int .i64 W1),(79,.int .i64 W2),(80,U.bool (decide (W1<W2))),(82,U.bool (decide (W1<W2))),(83,.int .i64 W1)] [] ([SB.box (Bk.cs b)]) (.c4 rfl rfl rfl rfl (.n9 rfl)) rfl rfl fun fr=>?_
          refine kh rfl (kI (by omega)) ?_
          refine zL [(1,.lst .ro 1 (zE d)),(2,U.box 0 0),(6,.int .i64 ↑F),(8,.lst .ro 1 (zE M)),(9,.bool true),(10,.int .i64 ↑j),(11,.lst .ro 1 (zE r)),(13,.int .i64 W2),(78,.int .i64 W1),(79,.int .i64 W2),(80,U.bool (decide (W1<W2))),(82,U.bool (decide (W1<W2))),(83,.int .i64 W1)] [] ([SB.box (Bk.cs b)]) (.c4 rfl rfl rfl rfl (.n9 rfl)) rfl rfl fun fr=>?_
          refine zA rfl (kh rfl (kI (by omega)) (kw rfl (kh rfl (kI (by omega)) (zA rfl (kh rfl (kH (by omega)) ?_)))))
          refine zA rfl (kh rfl (kH (by omega)) ?_)
          refine zP rfl ty22 rfl (List.length_map _) ?_
          refine kh rfl (kH (by omega)) ?_
          refine zA rfl (kh rfl (kH (by omega)) ?_)
          refine zP rfl ty22 rfl (List.length_map _) ?_
          refine kh rfl (kH (by omega)) ?_
          refine kq rfl (kh rfl (kH (by omega)) ?_)
          refine zA rfl (kh rfl (kI (by omega)) (zA rfl (kh rfl (kI (by omega)) (zP rfl ty22 rfl (List.length_map _) ?_))))
          refine kh rfl (kI (by omega)) (zA rfl (kh rfl (kI (by omega)) (zP rfl ty22 rfl (List.length_map _) ?_)))
          refine kh rfl (kI (by omega)) (kw rfl (kh rfl (kI (by omega)) (zA rfl (kg rfl (kI (by omega)) ?_))))
          refine kg rfl (kI (by omega)) ?_
          refine kg rfl (kI (by omega)) ?_
          refine kh rfl (kI (by omega)) (zW rfl rfl (kI (by omega)) ?_)
          refine kh rfl (kH (by omega)) ?_
          refine zW rfl rfl (kI (by omega)) ?_
          refine kh rfl (kI (by omega)) (zc rfl rfl (kH (by omega)) ?_)
          refine zW rfl rfl (kI (by omega)) ?_
          refine zC ?_
          exact⟨rfl,rfl,.c4 rfl rfl rfl rfl (.n4 rfl)⟩
       ·rw[kI a2,Bool.false_and]
        refine k_region (zA rfl (zh rfl rfl (zA rfl (kf rfl (zA rfl (kf rfl (zA rfl (kf rfl (kq rfl (kF rfl ?_))))))))))
        refine zA rfl (kh rfl (kI (by omega)) (zA rfl ?_))
        refine zL [(1,.lst .ro 1 (zE d)),(2,U.box 0 0),(6,.int .i64 ↑F),(8,.lst .ro 1 (zE M)),(9,.bool true),(10,.int .i64 ↑j),(11,.lst .ro 1 (zE r)),(13,.int .i64 W2),(78,.int .i64 W1),(79,.int .i64 W2),(80,U.bool (decide (W1<W2))),(82,U.bool (decide (W1<W2))),(83,.int .i64 W1)] [] ([SB.box (Bk.cs b)]) (.c4 rfl rfl rfl rfl (.n9 rfl)) rfl rfl fun fr=>?_
        refine kh rfl (kI (by omega)) ?_
        refine zL [(1,.lst .ro 1 (zE d)),(2,U.box 0 0),(6,.int .i64 ↑F),(8,.lst .ro 1 (zE M)),(9,.bool true),(10,.int .i64 ↑j),(11,.lst .ro 1 (zE r)),(13,.int .i64 W2),(78,.int .i64 W1),(79,.int .i64 W2),(80,U.bool (decide (W1<W2))),(82,U.bool (decide (W1<W2))),(83,.int .i64 W1)] [] ([SB.box (Bk.cs b)]) (.c4 rfl rfl rfl rfl (.n9 rfl)) rfl rfl fun fr=>?_
        refine zA rfl (kh rfl (kI (by omega)) (kw rfl (kh rfl (kI (by omega)) (zA rfl (kg rfl (kI (by omega)) ?_)))))
        refine kg rfl (kI (by omega)) ?_
        refine kg rfl (kI (by omega)) ?_
        refine kg rfl (kI (by omega)) ?_
        refine kg rfl (kI (by omega)) ?_
        refine kg rfl (kI (by omega)) ?_
        refine zL [(1,.lst .ro 1 (zE d)),(2,U.box 0 0),(6,.int .i64 ↑F),(8,.lst .ro 1 (zE M)),(9,.bool true),(10,.int .i64 ↑j),(11,.lst .ro 1 (zE r)),(78,.int .i64 W1),(79,.int .i64 W2),(80,U.bool (decide (W1<W2))),(82,U.bool (decide (W1<W2))),(83,.int .i64 W1),(84,.int .i64 W2),(85,U.bool (decide (W1=W2))),(86,U.bool (decide (W1=W2))),(87,U.tup []),(88,U.tup []),(89,U.tup []),(90,U.tup []),(91,U.tup []),(92,U.tup [])] [] ([SB.box (Bk.cs b)]) (.c4 rfl rfl rfl rfl (.c4 rfl rfl rfl rfl (.c4 rfl rfl rfl rfl (.n9 rfl)))) rfl rfl fun fr=>?_
        refine yD rfl rfl rfl rfl ?_
        refine yD rfl rfl rfl rfl ?_
        refine yD rfl rfl rfl rfl ?_
        refine yD rfl rfl rfl rfl ?_
        refine yD rfl rfl rfl rfl ?_
        refine yD rfl rfl rfl rfl ?_
        refine yD rfl rfl rfl rfl ?_
        refine yD rfl rfl rfl rfl ?_
        refine yD rfl rfl rfl rfl ?_
        refine zL [(1,.lst .ro 1 (zE d)),(2,U.box 0 0),(6,.int .i64 ↑F),(8,.lst .ro 1 (zE M)),(9,.bool true),(10,.int .i64 ↑j),(11,.lst .ro 1 (zE r)),(78,.int .i64 W1),(79,.int .i64 W2),(80,U.bool (decide (W1<W2))),(82,U.bool (decide (W1<W2))),(83,.int .i64 W1),(84,.int .i64 W2),(85,U.bool (decide (W1=W2))),(86,U.bool (decide (W1=W2))),(87,U.tup []),(88,U.tup []),(89,U.tup []),(90,U.tup []),(91,U.tup []),(92,U.tup []),(93,U.tup []),(94,U.tup []),(95,U.tup []),(96,U.tup []),(97,U.tup []),(98,U.tup []),(99,U.tup []),(100,U.tup []),(101,U.tup [])] [] ([SB.box (Bk.cs b)]) (.c4 rfl rfl rfl rfl (.c4 rfl rfl rfl rfl (.c4 rfl rfl rfl rfl (.c4 rfl rfl rfl rfl (.c4 rfl rfl rfl rfl (.n10 rfl)))))) rfl rfl fun fr=>?_
        refine yD rfl rfl rfl rfl ?_
        refine kg rfl (kI (by omega)) ?_
        refine kh rfl (kI (by omega)) (zW rfl rfl (kI (by omega)) ?_)
        refine zW rfl rfl (kI (by omega)) ?_
        refine zC ?_
        exact⟨rfl,rfl,.c4 rfl rfl rfl rfl (.n4 rfl)⟩
    obtain⟨hst5,hs5⟩:=hM2
    generalize hv:(!z||ltB (wt b) r M)=v at*
    refine zF _ _ hs5 hst5 fun fr7=>?_
    cases v with
    |true=>
     rw[if_pos rfl]at hsb
     refine k_cT rfl rfl ?_
     refine k_region (zA rfl (zB rfl (zB rfl (zC (k_region (zA rfl ?_))))))
     refine kB rfl (by unfold I64;omega) (zB rfl (zC ?_))
     exact⟨kk - 1,by omega,j+1,by omega,rfl,.cons rfl (.cons rfl (.cons rfl (.cons (by rw[hsb];rfl) (.cons (by rw[hsb];rfl) (.n1 rfl)))))⟩
    |false=>
     rw[if_neg (by decide)]at hsb
     refine k_cF rfl rfl ?_
     refine zJ (k_region (zA rfl ?_))
     refine kB rfl (by unfold I64;omega) (zB rfl (zC ?_))
     exact⟨kk - 1,by omega,j+1,by omega,rfl,.cons rfl (.cons rfl (.cons rfl (.cons (by rw[hsb,←hM];rfl) (.cons (by rw[hsb,←hz];rfl) (.n1 rfl)))))⟩
  ·have hje:j=2 ^ b.scenes.length:=by omega
   have hm1: ¬ ((j:Int)<2 ^ b.scenes.length):=by rw[←hcn];exact_mod_cast hjn
   subst hje
   generalize bsr b d (2 ^ b.scenes.length)=o at*
   generalize o.getD []=M at*
   generalize o.isSome=z at*
   refine zF _ _ hs3 hst3 fun fr3=>?_
   refine k_seq (kQ (zA rfl (kA rfl ze (kC sh23 rfl (zP rfl ty23 rfl (List.length_map _) ?_)))))
   refine zBx rfl rfl rfl (by omega) ?_
   refine kq rfl (zC (k_cF rfl (kI (by omega)) (zr (kQ (zA rfl (zA rfl (zB rfl (zB rfl (zC (zS ?_))))))))))
   refine⟨.inr rfl,_,.cons _ _ _ _ (.tmp 4) (.cons _ _ _ _ (.tmp 5) .nil),?_⟩
   exact .refl _
end Go.Proofs.YtlknfhjfkcboiaaDoor.night
