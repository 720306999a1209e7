import Derived.Test.YthhbfbmfhldbaaaDoorVamT7
set_option linter.unusedVariables false
set_option linter.unusedSimpArgs false
set_option linter.constructorNameAsVariable false
namespace Go.Proofs.YthhbfbmfhldbaaaDoor.locks
open Vam
variable {is:FuncId→Bool}{orc:Known}{l:Ln}
theorem pl36:zFV Tryd.prog 36=some [(0,1),(1,1)]:=by kernel_rfl
theorem ty36:tyOf Tryd.prog 36=.array 2 3:=by kernel_rfl
theorem ze36:yM Tryd.prog 36=some ((.cons (.int .i64 0) (.cons (.int .i64 0) .nil)):V):=by kernel_rfl
noncomputable def b109:Code:=(Tryd.f109.body).getD .skip
theorem body109:bodyOf Tryd.prog 109=some (45,b109,[.tmp 8]):=by kernel_rfl
theorem pure109:pureFn Tryd.prog 109=true:=by kernel_rfl
def rF(f g:Nat→Bool)(w:Int)(n:Nat)(k:Int):Bool:=(if w=0 then f else g) (k % (n:Int)).toNat
set_option maxHeartbeats 16000000 in
theorem ret109(hi:Off is)(h:VL l)(f g:Nat→Bool){w:Int}(hw:w=0∨w=1){slot:Nat}(hin:slot<l.slots.length):RetP Tryd.prog is orc 109 [l.u,spU f g,.int .i64 w,.int .i64 slot] (.bool (zCI (rF f g w l.slots.length) l.run.toNat slot)):=by
 refine zw body109 pure109 (hi 109 (by decide)) rfl rfl (dat_l4 (yk l 5) (yy _ 6) (.int _ _ _) (.int _ _ _)) (.inl (.bool _ _)) ?_
 have hn:=h.n
 have hrn:=h.rn
 obtain⟨r,hr⟩:∃r:Nat,l.run=r:=⟨l.run.toNat,by omega⟩
 rw[show l.run.toNat=r by omega]
 have hld:∀(m:Nat) (a:Int),a % (l.slots.length:Int)=m→(zK (b16 f++b16 g))[0+w.toNat*16+(m:Int).toNat*1]? =some (.bool (rF f g w l.slots.length a)):=fun m a hm=>by
  have hml:m<16:=by have:=Int.emod_lt_of_pos a (show(0:Int)<l.slots.length by omega);omega
  unfold rF
  rw[hm,Int.toNat_natCast]
  rcases hw with rfl|rfl
  ·rw[show 0+(0:Int).toNat*16+m*1=m by simp]
   refine zBw ?_
   rw[List.getElem?_append_left (by rw[zl];exact hml),zCb hml];rfl
  ·rw[show 0+(1:Int).toNat*16+m*1=16+m by simp]
   refine zBw ?_
   rw[List.getElem?_append_right (by rw[zl];omega),zl,show 16+m - 16=m by omega,zCb hml];rfl
 generalize rF f g w l.slots.length=F at*
 obtain⟨c1,hc1⟩:∃c1,c1=cntF F r 1 (r+1) ((slot:Int)+1) 1:=⟨_,rfl⟩
 obtain⟨c2,hc2⟩:∃c2,c2=cntF F r (-1) (r+1) ((slot:Int) - 1) c1:=⟨_,rfl⟩
 have b1:=zBL F r 1 (r+1) ((slot:Int)+1) 1 (by omega) (by omega)
 rw[←hc1]at b1
 have b2:=zBL F r (-1) (r+1) ((slot:Int) - 1) c1 (by omega) (by omega)
 rw[←hc2]at b2
 obtain⟨b11,b12,_⟩:=b1
 obtain⟨b21,b22,_⟩:=b2
 unfold zCI
 rw[←hc1,←hc2]
 refine kQ (zk rfl rfl (zk rfl rfl (zA rfl (zB ?_))))
 refine zH [(2,.int .i64 w),(3,.int .i64 ↑slot),(4,U.box 0 0),(5,U.box 1 0)] ([SB.box [.lst .ro 1 (zE (Ln.slots l)),.int .i64 (Ln.left l),.int .i64 (Ln.right l),.int .i64 (Ln.run l)],SB.box [U.bool (f (nat_lit 0)),U.bool (f (nat_lit 1)),U.bool (f (nat_lit 2)),U.bool (f (nat_lit 3)),U.bool (f (nat_lit 4)),U.bool (f (nat_lit 5)),U.bool (f (nat_lit 6)),U.bool (f (nat_lit 7)),U.bool (f (nat_lit 8)),U.bool (f (nat_lit 9)),U.bool (f (nat_lit 10)),U.bool (f (nat_lit 11)),U.bool (f (nat_lit 12)),U.bool (f (nat_lit 13)),U.bool (f (nat_lit 14)),U.bool (f (nat_lit 15)),U.bool (g (nat_lit 0)),U.bool (g (nat_lit 1)),U.bool (g (nat_lit 2)),U.bool (g (nat_lit 3)),U.bool (g (nat_lit 4)),U.bool (g (nat_lit 5)),U.bool (g (nat_lit 6)),U.bool (g (nat_lit 7)),U.bool (g (nat_lit 8)),U.bool (g (nat_lit 9)),U.bool (g (nat_lit 10)),U.bool (g (nat_lit 11)),U.bool (g (nat_lit 12)),U.bool (g (nat_lit 13)),U.bool (g (nat_lit 14)),U.bool (g (nat_lit 15))]]) (.n4 rfl) rfl fun fr=>?_
 refine kQ (zA rfl (zB (k_seq (kQ (we rfl ze36 pl36 rfl rfl ?_)))))
 refine zC rfl (zB (zI ?_))
 refine yX (fun kk s2=>∃j:Nat,kk+j=2∧s2.st=[.box l.cs,.box (zK (b16 f++b16 g))]∧Holds s2 [(2,.int .i64 w),(3,.int .i64 slot),(4,.box 0 0),(5,.box 1 0),(9,.int .i64 ((if j=0 then 1 else if j=1 then c1 else c2:Nat):Int)),(13,.agg [.int .i64 1,.int .i64 (-1)]),(14,.int .i64 j)]) (fun kk s2 hI=>?_) 2 _ ⟨0,rfl,rfl,.c4 rfl rfl rfl rfl (.n3 rfl)⟩
 obtain⟨j,hk,hst2,hs2⟩:=hI
 obtain⟨D,hD⟩:∃D,D=b16 f++b16 g:=⟨_,rfl⟩
 rw[←hD]at hst2 hld ⊢
 have hj3:j=0∨j=1∨j=2:=by omega
 rcases hj3 with rfl|rfl|rfl
 ·refine zH _ _ hs2 hst2 fun fr2=>?_
  refine kQ (kp rfl (zB (k_seq (k_cT rfl rfl ?_))))
  refine zL (k_seq (zI (kQ (wX rfl ty36 rfl rfl (by omega) (by omega) cl3 sh3 rfl ?_))))
  refine zA rfl (zB (kQ (zC rfl (zC rfl ?_))))
  refine kz rfl (by unfold I64;omega) (zA rfl (zB (zI ?_)))
  ·refine yX (fun mm s3=>∃(a:Int) (c:Nat),cntF F r (1) mm a c=c1∧c≤r+1∧r+1≤c+mm∧ -(40+(c:Int))≤a∧a≤40+c∧s3.st=[.box l.cs,.box (zK D)]∧Holds s3 [(2,.int .i64 w),(3,.int .i64 slot),(4,.box 0 0),(5,.box 1 0),(9,.int .i64 (c:Nat)),(11,.int .i64 (1)),(12,.int .i64 a),(13,.agg [.int .i64 1,.int .i64 (-1)]),(14,.int .i64 ((0:Nat):Int))]) (fun mm s3 hJ=>?_) (r+1) _ ⟨(slot:Int)+1,1,hc1.symm,by omega,by omega,by omega,by omega,rfl,.c4 rfl rfl rfl rfl (.n5 rfl)⟩
   obtain⟨a,c,hcn,hc1',hc2',hc3,hc4,hst3,hs3⟩:=hJ
   obtain⟨m,hm⟩:∃m:Nat,a % (l.slots.length:Int)=m:=⟨(a % (l.slots.length:Int)).toNat,by have:=Int.emod_nonneg a (show(l.slots.length:Int)≠0 by omega);omega⟩
   have hml:m<l.slots.length:=by have:=Int.emod_lt_of_pos a (show(0:Int)<l.slots.length by omega);omega
   have q103:=ret103 (orc:=orc) hi h a
   rw[hm]at q103
   have hq:=hld m a hm
   by_cases hcr:c≤r
   ·obtain⟨k,rfl⟩:∃k,mm=k+1:=⟨mm - 1,by omega⟩
    unfold cntF at hcn
    cases cf:F a with
    |true=>
     rw[cf]at hq
     rw[if_pos ⟨hcr,cf⟩]at hcn
     refine zH _ _ hs3 hst3 fun fr3=>?_
     refine k_seq (k_seq (yf [.plain,.plain,.plain,.plain,.plain,.plain,.plain,.plain,.plain,.plain,.plain,.plain,.plain,.plain] (by kernel_rfl) (by kernel_rfl) (by kernel_rfl) ?_))
     refine zD (zC rfl (zB rfl)) (zD (kw rfl yR (zB rfl)) ?_)
     refine zD (kw rfl zAA (zB rfl)) ?_
     refine zD (kA sh3 rfl (zB rfl)) ?_
     refine zD (kq rfl (zB rfl)) ?_
     refine zD (zC rfl (zB rfl)) (kn rfl (kF (by omega)) ?_)
     refine zD (zC rfl (zB rfl)) (kn rfl (kF (by omega)) ?_)
     refine zD (kB sh73 rfl (zB rfl)) ?_
     refine kn rfl (kF (by omega)) ?_
     refine zD (zC rfl (zB rfl)) ?_
     refine zn [(2,.int .i64 w),(3,.int .i64 ↑slot),(4,U.box 0 0),(5,U.box 1 0),(9,.int .i64 ↑c),(11,.int .i64 1),(12,.int .i64 a),(13,U.agg [.int .i64 1,.int .i64 (-1:Int)]),(14,.int .i64 ↑0),(25,U.bool (decide (↑c≤Ln.run l))),(26,.int .i64 w),(27,U.agg [.lst .ro 1 (zE (Ln.slots l)),.int .i64 (Ln.left l),.int .i64 (Ln.right l),.int .i64 (Ln.run l)]),(28,.int .i64 a)] [] ([SB.box (Ln.cs l),SB.box (zK D)]) (.c4 rfl rfl rfl rfl (.n9 rfl)) rfl rfl fun fr=>?_
     refine kn rfl (kF (by omega)) ?_
     refine zn [(2,.int .i64 w),(3,.int .i64 ↑slot),(4,U.box 0 0),(5,U.box 1 0),(9,.int .i64 ↑c),(11,.int .i64 1),(12,.int .i64 a),(13,U.agg [.int .i64 1,.int .i64 (-1:Int)]),(14,.int .i64 0),(25,U.bool (decide (↑c≤Ln.run l))),(26,.int .i64 w),(27,U.agg [.lst .ro 1 (zE (Ln.slots l)),.int .i64 (Ln.left l),.int .i64 (Ln.right l),.int .i64 (Ln.run l)]),(28,.int .i64 a)] [] ([SB.box (Ln.cs l),SB.box (zK D)]) (.c4 rfl rfl rfl rfl (.n9 rfl)) rfl rfl fun fr=>?_
     refine zD (zN rfl (q103) (.lrefl _) (zB rfl)) ?_
     refine kn rfl (kF (by omega)) ?_
     refine zD (yW rfl ty85 rfl rfl (by omega) (by omega) cl83 (zB rfl)) ?_
     refine kn rfl (kF (by omega)) ?_
     refine zD (yW rfl ty83 rfl rfl (by omega) (by omega) cl4 (zB rfl)) ?_
     refine kn rfl (kF (by omega)) ?_
     refine zD (zx rfl rfl rfl sh4 hq (zB rfl)) ?_
     refine zD (wq rfl rfl (kF (by omega)) (zB rfl)) ?_
     refine wm ?_
     refine zH [(2,.int .i64 w),(3,.int .i64 ↑slot),(4,U.box 0 0),(5,U.box 1 0),(9,.int .i64 ↑c),(11,.int .i64 1),(12,.int .i64 a),(13,U.agg [.int .i64 1,.int .i64 (-1:Int)]),(14,.int .i64 0),(33,.bool true)] ([SB.box (Ln.cs l),SB.box (zK D)]) (.n10 rfl) rfl fun fr=>?_
     refine k_cT rfl rfl ?_
     refine zL (k_seq (zI (k_region (zC rfl ?_))))
     refine kz rfl (by unfold I64;omega) (zA rfl (zB (k_region (zC rfl (zC rfl ?_)))))
     refine kz rfl (by unfold I64;omega) (zA rfl (zB ?_))
     exact⟨k,by omega,a+(1),c+1,hcn,by omega,by omega,by omega,by omega,rfl,.c4 rfl rfl rfl rfl (.n5 rfl)⟩
    |false=>
     rw[cf]at hq
     rw[if_neg (fun x=>by rw[cf]at x;cases x.2)]at hcn
     subst hcn
     refine zH _ _ hs3 hst3 fun fr3=>?_
     refine k_seq (k_seq (yf [.plain,.plain,.plain,.plain,.plain,.plain,.plain,.plain,.plain,.plain,.plain,.plain,.plain,.plain] (by kernel_rfl) (by kernel_rfl) (by kernel_rfl) ?_))
     refine zD (zC rfl (zB rfl)) (zD (kw rfl yR (zB rfl)) ?_)
     refine zD (kw rfl zAA (zB rfl)) ?_
     refine zD (kA sh3 rfl (zB rfl)) ?_
     refine zD (kq rfl (zB rfl)) ?_
     refine zD (zC rfl (zB rfl)) (kn rfl (kF (by omega)) ?_)
     refine zD (zC rfl (zB rfl)) (kn rfl (kF (by omega)) ?_)
     refine zD (kB sh73 rfl (zB rfl)) ?_
     refine kn rfl (kF (by omega)) ?_
     refine zD (zC rfl (zB rfl)) ?_
     refine zn [(2,.int .i64 w),(3,.int .i64 ↑slot),(4,U.box 0 0),(5,U.box 1 0),(9,.int .i64 ↑c),(11,.int .i64 1),(12,.int .i64 a),(13,U.agg [.int .i64 1,.int .i64 (-1:Int)]),(14,.int .i64 ↑0),(25,U.bool (decide (↑c≤Ln.run l))),(26,.int .i64 w),(27,U.agg [.lst .ro 1 (zE (Ln.slots l)),.int .i64 (Ln.left l),.int .i64 (Ln.right l),.int .i64 (Ln.run l)]),(28,.int .i64 a)] [] ([SB.box (Ln.cs l),SB.box (zK D)]) (.c4 rfl rfl rfl rfl (.n9 rfl)) rfl rfl fun fr=>?_
     refine kn rfl (kF (by omega)) ?_
     refine zn [(2,.int .i64 w),(3,.int .i64 ↑slot),(4,U.box 0 0),(5,U.box 1 0),(9,.int .i64 ↑c),(11,.int .i64 1),(12,.int .i64 a),(13,U.agg [.int .i64 1,.int .i64 (-1:Int)]),(14,.int .i64 0),(25,U.bool (decide (↑c≤Ln.run l))),(26,.int .i64 w),(27,U.agg [.lst .ro 1 (zE (Ln.slots l)),.int .i64 (Ln.left l),.int .i64 (Ln.right l),.int .i64 (Ln.run l)]),(28,.int .i64 a)] [] ([SB.box (Ln.cs l),SB.box (zK D)]) (.c4 rfl rfl rfl rfl (.n9 rfl)) rfl rfl fun fr=>?_
     refine zD (zN rfl (q103) (.lrefl _) (zB rfl)) ?_
     refine kn rfl (kF (by omega)) ?_
     refine zD (yW rfl ty85 rfl rfl (by omega) (by omega) cl83 (zB rfl)) ?_
     refine kn rfl (kF (by omega)) ?_
     refine zD (yW rfl ty83 rfl rfl (by omega) (by omega) cl4 (zB rfl)) ?_
     refine kn rfl (kF (by omega)) ?_
     refine zD (zx rfl rfl rfl sh4 hq (zB rfl)) ?_
     refine zD (wq rfl rfl (kF (by omega)) (zB rfl)) ?_
     refine wm ?_
     refine zH [(2,.int .i64 w),(3,.int .i64 ↑slot),(4,U.box 0 0),(5,U.box 1 0),(9,.int .i64 ↑c),(11,.int .i64 1),(12,.int .i64 a),(13,U.agg [.int .i64 1,.int .i64 (-1:Int)]),(14,.int .i64 0),(33,.bool false)] ([SB.box (Ln.cs l),SB.box (zK D)]) (.n10 rfl) rfl fun fr=>?_
     refine k_cF rfl rfl ?_
     refine zj (k_region ?_)
     refine kz rfl (by unfold I64;omega) (zC rfl (zB ?_))
     exact⟨kk - 1,by omega,1,by omega,rfl,.c4 rfl rfl rfl rfl (.n3 rfl)⟩
   ·have hce:c=c1:=by
     rw[←hcn]
     cases mm with
     |zero=>rfl
     |succ k=>unfold cntF;rw[if_neg (fun x=>hcr x.1)]
    subst hce
    refine zH _ _ hs3 hst3 fun fr3=>?_
    refine k_seq (k_seq (yf [.plain,.plain,.plain,.plain,.plain,.plain,.plain,.plain,.plain,.plain,.plain,.plain,.plain,.plain] (by kernel_rfl) (by kernel_rfl) (by kernel_rfl) ?_))
    refine zD (zC rfl (zB rfl)) (zD (kw rfl yR (zB rfl)) ?_)
    refine zD (kw rfl zAA (zB rfl)) ?_
    refine zD (kA sh3 rfl (zB rfl)) ?_
    refine zD (kq rfl (zB rfl)) ?_
    refine zD (zC rfl (zB rfl)) (km rfl (kG (by omega)) ?_)
    refine km rfl (kG (by omega)) ?_
    refine km rfl (kG (by omega)) ?_
    refine zn [(2,.int .i64 w),(3,.int .i64 ↑slot),(4,U.box 0 0),(5,U.box 1 0),(9,.int .i64 ↑c),(11,.int .i64 1),(12,.int .i64 a),(13,U.agg [.int .i64 1,.int .i64 (-1:Int)]),(14,.int .i64 ↑0),(25,U.bool (decide (↑c≤Ln.run l)))] [] ([SB.box (Ln.cs l),SB.box (zK D)]) (.n10 rfl) rfl rfl fun fr=>?_
    refine km rfl (kG (by omega)) ?_
    refine km rfl (kG (by omega)) ?_
    refine km rfl (kG (by omega)) ?_
    refine km rfl (kG (by omega)) ?_
    refine zD (zAO rfl rfl (kG (by omega)) (zB rfl)) ?_
    refine wm ?_
    refine zH [(2,.int .i64 w),(3,.int .i64 ↑slot),(4,U.box 0 0),(5,U.box 1 0),(9,.int .i64 ↑c),(11,.int .i64 1),(12,.int .i64 a),(13,U.agg [.int .i64 1,.int .i64 (-1:Int)]),(14,.int .i64 0),(33,.bool false)] ([SB.box (Ln.cs l),SB.box (zK D)]) (.n10 rfl) rfl fun fr=>?_
    refine k_cF rfl rfl ?_
    refine zj (k_region ?_)
    refine kz rfl (by unfold I64;omega) (zC rfl (zB ?_))
    exact⟨kk - 1,by omega,1,by omega,rfl,.c4 rfl rfl rfl rfl (.n3 rfl)⟩
 ·refine zH _ _ hs2 hst2 fun fr2=>?_
  refine kQ (kp rfl (zB (k_seq (k_cT rfl rfl ?_))))
  refine zL (k_seq (zI (kQ (wX rfl ty36 rfl rfl (by omega) (by omega) cl3 sh3 rfl ?_))))
  refine zA rfl (zB (kQ (zC rfl (zC rfl ?_))))
  refine kz rfl (by unfold I64;omega) (zA rfl (zB (zI ?_)))
  ·refine yX (fun mm s3=>∃(a:Int) (c:Nat),cntF F r (-1) mm a c=c2∧c≤r+1∧r+1≤c+mm∧ -(40+(c:Int))≤a∧a≤40+c∧s3.st=[.box l.cs,.box (zK D)]∧Holds s3 [(2,.int .i64 w),(3,.int .i64 slot),(4,.box 0 0),(5,.box 1 0),(9,.int .i64 (c:Nat)),(11,.int .i64 (-1)),(12,.int .i64 a),(13,.agg [.int .i64 1,.int .i64 (-1)]),(14,.int .i64 ((1:Nat):Int))]) (fun mm s3 hJ=>?_) (r+1) _ ⟨(slot:Int) - 1,c1,hc2.symm,by omega,by omega,by omega,by omega,rfl,.c4 rfl rfl rfl rfl (.n5 rfl)⟩
   obtain⟨a,c,hcn,hc1',hc2',hc3,hc4,hst3,hs3⟩:=hJ
   obtain⟨m,hm⟩:∃m:Nat,a % (l.slots.length:Int)=m:=⟨(a % (l.slots.length:Int)).toNat,by have:=Int.emod_nonneg a (show(l.slots.length:Int)≠0 by omega);omega⟩
   have hml:m<l.slots.length:=by have:=Int.emod_lt_of_pos a (show(0:Int)<l.slots.length by omega);omega
   have q103:=ret103 (orc:=orc) hi h a
   rw[hm]at q103
   have hq:=hld m a hm
   by_cases hcr:c≤r
   ·obtain⟨k,rfl⟩:∃k,mm=k+1:=⟨mm - 1,by omega⟩
    unfold cntF at hcn
    cases cf:F a with
    |true=>
     rw[cf]at hq
     rw[if_pos ⟨hcr,cf⟩]at hcn
     refine zH _ _ hs3 hst3 fun fr3=>?_
     refine k_seq (k_seq (yf [.plain,.plain,.plain,.plain,.plain,.plain,.plain,.plain,.plain,.plain,.plain,.plain,.plain,.plain] (by kernel_rfl) (by kernel_rfl) (by kernel_rfl) ?_))
     refine zD (zC rfl (zB rfl)) (zD (kw rfl yR (zB rfl)) ?_)
     refine zD (kw rfl zAA (zB rfl)) ?_
     refine zD (kA sh3 rfl (zB rfl)) ?_
     refine zD (kq rfl (zB rfl)) ?_
     refine zD (zC rfl (zB rfl)) (kn rfl (kF (by omega)) ?_)
     refine zD (zC rfl (zB rfl)) (kn rfl (kF (by omega)) ?_)
     refine zD (kB sh73 rfl (zB rfl)) ?_
     refine kn rfl (kF (by omega)) ?_
     refine zD (zC rfl (zB rfl)) ?_
     refine zn [(2,.int .i64 w),(3,.int .i64 ↑slot),(4,U.box 0 0),(5,U.box 1 0),(9,.int .i64 ↑c),(11,.int .i64 (-1:Int)),(12,.int .i64 a),(13,U.agg [.int .i64 1,.int .i64 (-1:Int)]),(14,.int .i64 ↑1),(25,U.bool (decide (↑c≤Ln.run l))),(26,.int .i64 w),(27,U.agg [.lst .ro 1 (zE (Ln.slots l)),.int .i64 (Ln.left l),.int .i64 (Ln.right l),.int .i64 (Ln.run l)]),(28,.int .i64 a)] [] ([SB.box (Ln.cs l),SB.box (zK D)]) (.c4 rfl rfl rfl rfl (.n9 rfl)) rfl rfl fun fr=>?_
     refine kn rfl (kF (by omega)) ?_
     refine zn [(2,.int .i64 w),(3,.int .i64 ↑slot),(4,U.box 0 0),(5,U.box 1 0),(9,.int .i64 ↑c),(11,.int .i64 (-1:Int)),(12,.int .i64 a),(13,U.agg [.int .i64 1,.int .i64 (-1:Int)]),(14,.int .i64 1),(25,U.bool (decide (↑c≤Ln.run l))),(26,.int .i64 w),(27,U.agg [.lst .ro 1 (zE (Ln.slots l)),.int .i64 (Ln.left l),.int .i64 (Ln.right l),.int .i64 (Ln.run l)]),(28,.int .i64 a)] [] ([SB.box (Ln.cs l),SB.box (zK D)]) (.c4 rfl rfl rfl rfl (.n9 rfl)) rfl rfl fun fr=>?_
     refine zD (zN rfl (q103) (.lrefl _) (zB rfl)) ?_
     refine kn rfl (kF (by omega)) ?_
     refine zD (yW rfl ty85 rfl rfl (by omega) (by omega) cl83 (zB rfl)) ?_
     refine kn rfl (kF (by omega)) ?_
     refine zD (yW rfl ty83 rfl rfl (by omega) (by omega) cl4 (zB rfl)) ?_
     refine kn rfl (kF (by omega)) ?_
     refine zD (zx rfl rfl rfl sh4 hq (zB rfl)) ?_
     refine zD (wq rfl rfl (kF (by omega)) (zB rfl)) ?_
     refine wm ?_
     refine zH [(2,.int .i64 w),(3,.int .i64 ↑slot),(4,U.box 0 0),(5,U.box 1 0),(9,.int .i64 ↑c),(11,.int .i64 (-1:Int)),(12,.int .i64 a),(13,U.agg [.int .i64 1,.int .i64 (-1:Int)]),(14,.int .i64 1),(33,.bool true)] ([SB.box (Ln.cs l),SB.box (zK D)]) (.n10 rfl) rfl fun fr=>?_
     refine k_cT rfl rfl ?_
     refine zL (k_seq (zI (k_region (zC rfl ?_))))
     refine kz rfl (by unfold I64;omega) (zA rfl (zB (k_region (zC rfl (zC rfl ?_)))))
     refine kz rfl (by unfold I64;omega) (zA rfl (zB ?_))
     exact⟨k,by omega,a+(-1),c+1,hcn,by omega,by omega,by omega,by omega,rfl,.c4 rfl rfl rfl rfl (.n5 rfl)⟩
    |false=>
     rw[cf]at hq
     rw[if_neg (fun x=>by rw[cf]at x;cases x.2)]at hcn
     subst hcn
     refine zH _ _ hs3 hst3 fun fr3=>?_
     refine k_seq (k_seq (yf [.plain,.plain,.plain,.plain,.plain,.plain,.plain,.plain,.plain,.plain,.plain,.plain,.plain,.plain] (by kernel_rfl) (by kernel_rfl) (by kernel_rfl) ?_))
     refine zD (zC rfl (zB rfl)) (zD (kw rfl yR (zB rfl)) ?_)
     refine zD (kw rfl zAA (zB rfl)) ?_
     refine zD (kA sh3 rfl (zB rfl)) ?_
     refine zD (kq rfl (zB rfl)) ?_
     refine zD (zC rfl (zB rfl)) (kn rfl (kF (by omega)) ?_)
     refine zD (zC rfl (zB rfl)) (kn rfl (kF (by omega)) ?_)
     refine zD (kB sh73 rfl (zB rfl)) ?_
     refine kn rfl (kF (by omega)) ?_
     refine zD (zC rfl (zB rfl)) ?_
     refine zn [(2,.int .i64 w),(3,.int .i64 ↑slot),(4,U.box 0 0),(5,U.box 1 0),(9,.int .i64 ↑c),(11,.int .i64 (-1:Int)),(12,.int .i64 a),(13,U.agg [.int .i64 1,.int .i64 (-1:Int)]),(14,.int .i64 ↑1),(25,U.bool (decide (↑c≤Ln.run l))),(26,.int .i64 w),(27,U.agg [.lst .ro 1 (zE (Ln.slots l)),.int .i64 (Ln.left l),.int .i64 (Ln.right l),.int .i64 (Ln.run l)]),(28,.int .i64 a)] [] ([SB.box (Ln.cs l),SB.box (zK D)]) (.c4 rfl rfl rfl rfl (.n9 rfl)) rfl rfl fun fr=>?_
     refine kn rfl (kF (by omega)) ?_
     refine zn [(2,.int .i64 w),(3,.int .i64 ↑slot),(4,U.box 0 0),(5,U.box 1 0),(9,.int .i64 ↑c),(11,.int .i64 (-1:Int)),(12,.int .i64 a),(13,U.agg [.int .i64 1,.int .i64 (-1:Int)]),(14,.int .i64 1),(25,U.bool (decide (↑c≤Ln.run l))),(26,.int .i64 w),(27,U.agg [.lst .ro 1 (zE (Ln.slots l)),.int .i64 (Ln.left l),.int .i64 (Ln.right l),.int .i64 (Ln.run l)]),(28,.int .i64 a)] [] ([SB.box (Ln.cs l),SB.box (zK D)]) (.c4 rfl rfl rfl rfl (.n9 rfl)) rfl rfl fun fr=>?_
     refine zD (zN rfl (q103) (.lrefl _) (zB rfl)) ?_
     refine kn rfl (kF (by omega)) ?_
     refine zD (yW rfl ty85 rfl rfl (by omega) (by omega) cl83 (zB rfl)) ?_
     refine kn rfl (kF (by omega)) ?_
     refine zD (yW rfl ty83 rfl rfl (by omega) (by omega) cl4 (zB rfl)) ?_
     refine kn rfl (kF (by omega)) ?_
     refine zD (zx rfl rfl rfl sh4 hq (zB rfl)) ?_
     refine zD (wq rfl rfl (kF (by omega)) (zB rfl)) ?_
     refine wm ?_
     refine zH [(2,.int .i64 w),(3,.int .i64 ↑slot),(4,U.box 0 0),(5,U.box 1 0),(9,.int .i64 ↑c),(11,.int .i64 (-1:Int)),(12,.int .i64 a),(13,U.agg [.int .i64 1,.int .i64 (-1:Int)]),(14,.int .i64 1),(33,.bool false)] ([SB.box (Ln.cs l),SB.box (zK D)]) (.n10 rfl) rfl fun fr=>?_
     refine k_cF rfl rfl ?_
     refine zj (k_region ?_)
     refine kz rfl (by unfold I64;omega) (zC rfl (zB ?_))
     exact⟨kk - 1,by omega,2,by omega,rfl,.c4 rfl rfl rfl rfl (.n3 rfl)⟩
   ·have hce:c=c2:=by
     rw[←hcn]
     cases mm with
     |zero=>rfl
     |succ k=>unfold cntF;rw[if_neg (fun x=>hcr x.1)]
    subst hce
    refine zH _ _ hs3 hst3 fun fr3=>?_
    refine k_seq (k_seq (yf [.plain,.plain,.plain,.plain,.plain,.plain,.plain,.plain,.plain,.plain,.plain,.plain,.plain,.plain] (by kernel_rfl) (by kernel_rfl) (by kernel_rfl) ?_))
    refine zD (zC rfl (zB rfl)) (zD (kw rfl yR (zB rfl)) ?_)
    refine zD (kw rfl zAA (zB rfl)) ?_
    refine zD (kA sh3 rfl (zB rfl)) ?_
    refine zD (kq rfl (zB rfl)) ?_
    refine zD (zC rfl (zB rfl)) (km rfl (kG (by omega)) ?_)
    refine km rfl (kG (by omega)) ?_
    refine km rfl (kG (by omega)) ?_
    refine zn [(2,.int .i64 w),(3,.int .i64 ↑slot),(4,U.box 0 0),(5,U.box 1 0),(9,.int .i64 ↑c),(11,.int .i64 (-1:Int)),(12,.int .i64 a),(13,U.agg [.int .i64 1,.int .i64 (-1:Int)]),(14,.int .i64 ↑1),(25,U.bool (decide (↑c≤Ln.run l)))] [] ([SB.box (Ln.cs l),SB.box (zK D)]) (.n10 rfl) rfl rfl fun fr=>?_
    refine km rfl (kG (by omega)) ?_
    refine km rfl (kG (by omega)) ?_
    refine km rfl (kG (by omega)) ?_
    refine km rfl (kG (by omega)) ?_
    refine zD (zAO rfl rfl (kG (by omega)) (zB rfl)) ?_
    refine wm ?_
    refine zH [(2,.int .i64 w),(3,.int .i64 ↑slot),(4,U.box 0 0),(5,U.box 1 0),(9,.int .i64 ↑c),(11,.int .i64 (-1:Int)),(12,.int .i64 a),(13,U.agg [.int .i64 1,.int .i64 (-1:Int)]),(14,.int .i64 1),(33,.bool false)] ([SB.box (Ln.cs l),SB.box (zK D)]) (.n10 rfl) rfl fun fr=>?_
    refine k_cF rfl rfl ?_
    refine zj (k_region ?_)
    refine kz rfl (by unfold I64;omega) (zC rfl (zB ?_))
    exact⟨kk - 1,by omega,2,by omega,rfl,.c4 rfl rfl rfl rfl (.n3 rfl)⟩
 ·refine zH _ _ hs2 hst2 fun fr2=>?_
  refine kQ (kp rfl (zB (k_seq (k_cF rfl rfl ?_))))
  refine zj (kQ (zC rfl (kw rfl yR (kw rfl zAA (kA sh3 rfl (kq rfl (zA rfl (zB (zV ?_)))))))))
  refine⟨.inr rfl,_,.cons _ _ _ _ (.tmp 8) .nil,?_⟩
  show UW (.u (.bool (decide ((c2:Int)≤l.run)))) _
  rw[show decide ((c2:Int)≤l.run)=decide (c2≤r)from decide_eq_decide.2 (by rw[hr];omega)]
  exact .refl _
end Go.Proofs.YthhbfbmfhldbaaaDoor.locks
