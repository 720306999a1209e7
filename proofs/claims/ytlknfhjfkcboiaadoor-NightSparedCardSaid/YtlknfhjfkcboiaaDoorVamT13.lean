import Derived.Test.YtlknfhjfkcboiaaDoorVamT12
set_option linter.unusedVariables false
set_option linter.unusedSimpArgs false
set_option linter.constructorNameAsVariable false
namespace Go.Proofs.YtlknfhjfkcboiaaDoor.night
open Vam
section
variable {is:FuncId→Bool}{orc:Known}{b:Bk}
noncomputable def b90:Code:=(Tryd.f90.body).getD .skip
theorem body90:bodyOf Tryd.prog 90=some (26,b90,[.tmp 4]):=by kernel_rfl
theorem pure90:pureFn Tryd.prog 90=false:=by kernel_rfl
noncomputable def b92:Code:=(Tryd.f92.body).getD .skip
theorem body92:bodyOf Tryd.prog 92=some (15,b92,[.cell 4 72]):=by kernel_rfl
theorem pure92:pureFn Tryd.prog 92=true:=by kernel_rfl
noncomputable def b91:Code:=(Tryd.f91.body).getD .skip
theorem body91:bodyOf Tryd.prog 91=some (25,b91,[.tmp 4]):=by kernel_rfl
theorem pure91:pureFn Tryd.prog 91=false:=by kernel_rfl
noncomputable def b71:Code:=(Tryd.f71.body).getD .skip
theorem body71:bodyOf Tryd.prog 71=some (7,b71,[.tmp 4]):=by kernel_rfl
theorem pure71:pureFn Tryd.prog 71=true:=by kernel_rfl
structure Least(f:Nat→Bool)(n i:Nat):Prop where
 le:i≤n
 lo:∀j,j<i→f j=false
 hi:∀j,i≤j→j<n→f j=true
set_option maxHeartbeats 8000000 in
theorem wpc90(hi:Off is){g:Nat}{B:List U}{f:Nat→Bool}{n:Nat}(hn:n≤100000)(hmono:∀i j,i≤j→j<n→f i=true→f j=true){st:List SB}(hg:∀(i:Nat) e,i<n→WpC Tryd.prog is orc g ([.int .i64 i]++B) (st++e) fun u st'=>u=.bool (f i)∧∃e',st'=(st++e)++e'):
  WpC Tryd.prog is orc 90 [.int .i64 n,.fn g [] B] st fun u st'=>(∃i,Least f n i∧u=.int .i64 i)∧∃e,st'=st++e:=by
 refine zDH body90 pure90 rfl rfl ?_
 refine kQ (zA rfl (zC (kQ (zB rfl (zA rfl (zA rfl (zC (k_seq ?_))))))))
 refine zQ ?_
 refine yr (fun kk s2=>∃(i j:Nat),kk+i=j∧j≤n∧(∀k,k<i→f k=false)∧(∀k,j≤k→k<n→f k=true)∧(∃e,s2.st=st++e)∧Holds s2 [(1,.fn g [] B),(5,.int .i64 i),(6,.int .i64 j)]) (fun kk s2 hI=>?_) n _ ⟨0,n,rfl,Nat.le_refl _,(fun k h=>by omega),(fun k h h2=>by omega),⟨[],(by show st=st++[];rw[List.append_nil])⟩,.cons rfl (.cons rfl (.cons rfl (.nil rfl)))⟩
 obtain⟨i,j,hk,hjn,h1,h2,⟨e,hst2⟩,hs2⟩:=hI
 refine zK _ _ hs2 hst2 fun fr2=>?_
 by_cases hij:i<j
 ·obtain⟨h,hh⟩:∃h,h=(i+j) / 2:=⟨_,rfl⟩
  have hfd:((i:Int)+j).fdiv (2 ^ 1)=h:=by
   rw[Int.fdiv_eq_ediv_of_nonneg _ (by decide),hh];omega
  have hw1:zDN .u64 ((i:Int)+j)=(i:Int)+j:=wrapU64 (by omega)
  have hw2:zDN .i64 (((i:Int)+j).fdiv (2 ^ 1))=h:=by rw[hfd];exact wrap64 (by unfold I64;omega)
  have q:=hg h e (by omega)
  refine k_seq (kQ (zB rfl (zB rfl (ze rfl rfl rfl (zC (k_cT rfl (decide_eq_true (by omega)) (zU (zQ ?_))))))))
  refine kQ (zB rfl (zB rfl ?_))
  refine yV rfl rfl rfl (by unfold I64;omega) (o_conv (k:=.i64) (m:=(i:Int)+j) rfl (by kernel_rfl) (by kernel_rfl) rfl hw1 ?_)
  refine zEG (v:=.int .u64 (((i:Int)+j).fdiv (2 ^ 1))) rfl rfl rfl rfl rfl ?_
  refine o_conv (k:=.u64) (m:=(h:Int)) rfl (by kernel_rfl) (by kernel_rfl) rfl hw2 ?_
  refine zA rfl (zC (kQ (zB rfl (zB rfl ?_))))
  refine o_callV rfl rfl q (.lrefl _) (fun u st1 hM=>?_)
  obtain⟨rfl,e',rfl⟩:=hM
  cases hf:f h with
  |true=>
   refine yB rfl rfl (zC (k_cF rfl rfl ?_))
   refine k_region (zB rfl (zA rfl (zC ?_)))
   exact⟨h - i,by omega,i,h,by omega,by omega,h1,(fun k a b=>hmono h k a b hf),⟨e++e',by rw[←List.append_assoc];rfl⟩,.cons rfl (.cons rfl (.cons rfl (.nil rfl)))⟩
  |false=>
   refine yB rfl rfl (zC (k_cT rfl rfl ?_))
   refine k_region (zB rfl ?_)
   refine yV rfl rfl rfl (by unfold I64;omega) (zA rfl (zC ?_))
   exact⟨j - (h+1),by omega,h+1,j,by omega,by omega,(fun k a=>by cases hk2:f k with
    |false=>rfl
    |true=>rw[hmono k h (by omega) (by omega) hk2]at hf;cases hf),h2,⟨e++e',by rw[←List.append_assoc];rfl⟩,.cons rfl (.cons rfl (.cons rfl (.nil rfl)))⟩
 ·refine k_seq ?_
  refine kQ (zB rfl (zB rfl (ze rfl rfl rfl (zC (k_cF rfl (decide_eq_false (by omega)) (yf (kQ (zB rfl ?_))))))))
  refine zA rfl (zC (zZ ?_))
  refine⟨.inr rfl,_,.cons _ _ _ _ (.tmp 4) .nil,?_⟩
  exact⟨_,.refl _,⟨i,⟨by omega,h1,fun k a b=>h2 k (by omega) b⟩,rfl⟩,e,rfl⟩
def ltr(b:Bk)(x:Int):Bk:={b with bg:=b.bg+x}
theorem ltr_ok(h:BOk b){x:Int}(h1:0≤x)(h2:b.bg+x≤4000):BOk (ltr b x):=⟨h.op,h.en,h.sn,h.ln,h.pn,by have:=h.bg;show 0≤b.bg+x∧b.bg+x≤4000;omega,h.ops,h.ens,h.sc,h.fe,h.co,h.fs,h.lo,h.ca,h.sh⟩
theorem ltr_esy(b:Bk){x y:Int}(h:x≤y):Esy (ltr b y) (ltr b x):=⟨by show b.bg+x≤b.bg+y;omega,fun _=>Int.le_refl _,fun _=>Int.le_refl _,rfl,(esy_self b).sc⟩
theorem ltr_wt(b:Bk)(x:Int)(L:List Int):wt (ltr b x) L=wt b L:=rfl
theorem ltr_zero(b:Bk):ltr b 0=b:=by unfold ltr;rw[Int.add_zero]
set_option maxHeartbeats 8000000 in
theorem ret92(hi:Off is)(h:BOk b){d:List Int}{x:Int}(hx:0≤x∧x≤2000):RetP Tryd.prog is orc 92 [crU b d,.int .i64 x] (crU (ltr b x) d):=by
 refine yC body92 pure92 (hi 92 (by decide)) rfl rfl (yh (zBC b d 4) (.int _ _ _)) (.inl (zBC (ltr b x) d 4)) ?_
 have hbg:=h.bg
 refine kQ (yH rfl rfl (zu rfl ze72 ?_))
 refine zC ?_
 refine zK [(1,.int .i64 x),(2,U.box 0 0),(4,U.box 1 0)] ([SB.box (Bk.cd b d),SB.box [.int .i64 0,.lst .full 0 [],.lst .full 0 [],.lst .full 0 [],.int .i64 0,.lst .full 0 [],.int .i64 0,.int .i64 0,.int .i64 0,.lst .full 0 [],.lst .full 0 []]]) (.cons rfl (.cons rfl (.cons rfl (.nil rfl)))) rfl fun fr=>?_
 refine kQ (zD rfl rfl zAN (zD rfl rfl wD (zD rfl rfl zAD (zE rfl rfl rfl sh3 rfl (zB rfl ?_)))))
 refine yV rfl rfl rfl (by unfold I64;omega) (zD rfl rfl zAN (zD rfl rfl wD (zD rfl rfl zAD (wB rfl rfl sh3 rfl rfl (zC ?_)))))
 refine zK [(2,U.box 0 0),(4,U.box 1 0)] ([SB.box [.int .i64 (Bk.bg b+x),.lst .ro 1 (zF (Bk.opens b)),.lst .ro 1 (zF (Bk.ends b)),.lst .ro 5 (scsU (Bk.scenes b)),.int .i64 (Bk.fee b),.lst .ro 1 (zF (Bk.loads b)),.int .i64 (Bk.cart b),.int .i64 (Bk.cost b),.int .i64 (Bk.feast b),.lst .ro 1 (zF (Bk.shares b)),.lst .ro 1 (zF d)],SB.box [.int .i64 0,.lst .full 0 [],.lst .full 0 [],.lst .full 0 [],.int .i64 0,.lst .full 0 [],.int .i64 0,.int .i64 0,.int .i64 0,.lst .full 0 [],.lst .full 0 []]]) (.cons rfl (.cons rfl (.nil rfl))) rfl fun fr=>?_
 refine kQ (zP rfl rfl rfl sh72 rfl (zd rfl rfl sh72 rfl rfl rfl rfl rfl ?_))
 refine zC (zZ ?_)
 refine⟨.inr rfl,_,.cons _ _ _ _ (.cellN 4 72 _ _ _ _ rfl rfl sh72 rfl) .nil,?_⟩
 exact .refl _
def zDa(b:Bk)(w:Int)(i:Nat):Bool:=match lgt (ltr b (i+1)) []with
 |none=>true
 |some m=>decide (wt b m > w)
theorem zGi(b:Bk)(w:Int){i j:Nat}(h:i≤j)(hc:zDa b w i=true):zDa b w j=true:=by
 unfold zDa at hc ⊢
 cases hj:lgt (ltr b (j+1)) []with
 |none=>rfl
 |some m=>
  obtain⟨m2,h1,_,h2⟩:=esy_lgt (ltr_esy b (x:=i+1) (y:=j+1) (by omega)) hj
  rw[h1]at hc
  rw[ltr_wt,ltr_wt]at h2
  have hc:decide (wt b m2 > w)=true:=hc
  have hc:=of_decide_eq_true hc
  exact decide_eq_true (by omega)
set_option maxHeartbeats 8000000 in
theorem wpc91(hi:Off is)(h:VOk b){w:Int}{i:Nat}(hin:i<1000){st:List SB}(h0:st[0]? =some (.box (Bk.cd b [])))(h1:st[1]? =some (.box [.int .i64 w])):WpC Tryd.prog is orc 91 [.int .i64 i,.box 0 0,.box 1 0] st fun u st'=>u=.bool (zDa b w i)∧∃e,st'=st++e:=by
 refine zDH body91 pure91 rfl rfl ?_
 have hbg:=h.bg
 have hb2:=h.bg2
 have hb:=ltr_ok h.toBOk (x:=i+1) (by omega) (by omega)
 have q92:=ret92 (orc:=orc) hi h.toBOk (d:=[]) (x:=i+1) (by omega)
 have q70:=ret70 (orc:=orc) hi hb (dok_nil _)
 cases ho:lgt (ltr b (i+1)) []with
 |none=>
  have hc:zDa b w i=true:=by unfold zDa;rw[ho]
  rw[hc]
  rw[ho]at q70
  have q70:RetP Tryd.prog is orc 70 [crU (ltr b (i+1)) []] (.tup [.lst .full 0 [],.bool false]):=q70
  refine kQ (zA rfl (zC (kQ (zP rfl rfl h0 sh72 rfl ?_))))
  refine zB rfl ?_
  refine yV rfl rfl rfl (by unfold I64;omega) (zN rfl (q92) (.lrefl _) (zN rfl (q70) (.lrefl _) (zB rfl (zR rfl rfl rfl (zR rfl rfl rfl (zA rfl (zA rfl (zC ?_))))))))
  refine k_seq (zAz [.plain,.plain,.plain,.plain,.read true,.plain,.read false,.read true,.plain,.plain,.plain] (by kernel_rfl) (by kernel_rfl) (by kernel_rfl) ?_)
  refine zG (zB rfl (zC rfl)) (zG (yB rfl rfl (zC rfl)) ?_)
  refine zG (zB rfl (zC rfl)) (d_gS rfl rfl rfl rfl rfl (d_gS rfl rfl rfl rfl rfl (d_gS rfl rfl rfl rfl rfl (d_gS rfl rfl rfl rfl rfl (d_gS rfl rfl rfl rfl rfl (d_gS rfl rfl rfl rfl rfl (zG (zT rfl rfl rfl (zC rfl)) ?_)))))))
  refine zG (zA rfl (zC rfl)) ?_
  refine zCg ?_
  refine zZ ?_
  refine⟨.inr rfl,_,.cons _ _ _ _ (.tmp 4) .nil,?_⟩
  exact⟨_,.refl _,rfl,[],by rw[List.append_nil];rfl⟩
 |some m=>
  have hc:zDa b w i=decide (wt b m > w):=by unfold zDa;rw[ho]
  rw[hc]
  rw[ho]at q70
  have q70:RetP Tryd.prog is orc 70 [crU (ltr b (i+1)) []] (.tup [.lst .ro 1 (zF m),.bool true]):=q70
  have hm:=chs_cho (zBs ho).1.1
  have hl:=hm.len
  have hsn:=h.sn
  have hl:m.length≤b.scenes.length:=hl
  have q72:=ret72 (orc:=orc) hi h.toBOk (L:=m) (by omega) (fun x hx=>hm.rg x hx)
  generalize wt b m=z at*
  refine kQ (zA rfl (zC (kQ (zP rfl rfl h0 sh72 rfl ?_))))
  refine zB rfl ?_
  refine yV rfl rfl rfl (by unfold I64;omega) (zN rfl (q92) (.lrefl _) (zN rfl (q70) (.lrefl _) (zB rfl (zR rfl rfl rfl (zR rfl rfl rfl (zA rfl (zA rfl (zC ?_))))))))
  refine k_seq (zAz [.plain,.plain,.plain,.plain,.read true,.plain,.read false,.read true,.plain,.plain,.plain] (by kernel_rfl) (by kernel_rfl) (by kernel_rfl) ?_)
  refine zG (zB rfl (zC rfl)) (zG (yB rfl rfl (zC rfl)) ?_)
  refine zG (zB rfl (zC rfl)) (d_gD rfl rfl rfl rfl rfl (zG (zD rfl rfl zAN (zC rfl)) ?_))
  refine d_gD rfl rfl rfl rfl rfl (yM rfl (zP rfl rfl h0 sh70 rfl (zC rfl)) ?_)
  refine d_gD rfl rfl rfl rfl rfl (zG (zB rfl (zC rfl)) (d_gD rfl rfl rfl rfl rfl (zBD rfl (q72) (.int _ _) (.lrefl _) ?_)))
  refine d_gD rfl rfl rfl rfl rfl (yM rfl (zE rfl rfl h1 sh3 rfl (zC rfl)) ?_)
  refine d_gD rfl rfl rfl rfl rfl (zG (zEq rfl rfl rfl (zC rfl)) ?_)
  refine zG (zL rfl rfl rfl (zC rfl)) ?_
  refine zG (zA rfl (zC rfl)) ?_
  refine zCg ?_
  refine zZ ?_
  refine⟨.inr rfl,_,.cons _ _ _ _ (.tmp 4) .nil,?_⟩
  exact⟨_,.refl _,rfl,[],by rw[List.append_nil];rfl⟩
theorem least_ex(f:Nat→Bool)(n:Nat)(hm:∀x y,x≤y→y<n→f x=true→f y=true):∃i,Least f n i:=by
 induction n with
 |zero=>exact⟨0,Nat.le_refl _,(fun j h=>by omega),(fun j h h2=>by omega)⟩
 |succ n ih=>
  obtain⟨i,h1,h2,h3⟩:=ih fun x y a c=>hm x y a (by omega)
  cases hf:f n with
  |true=>exact⟨i,by omega,h2,fun j a c=>hm i j a c (by
    by_cases hi:i<n
    ·exact h3 i (Nat.le_refl _) hi
    ·have:i=n:=by omega
     subst this;exact hf)⟩
  |false=>exact⟨n+1,Nat.le_refl _,(fun j a=>by
    by_cases hj:j=n
    ·subst hj;exact hf
    ·cases hfj:f j with
     |false=>rfl
     |true=>rw[hm j n (by omega) (by omega) hfj]at hf;cases hf),(fun j a c=>by omega)⟩
theorem least_uni{f:Nat→Bool}{n i j:Nat}(a:Least f n i)(c:Least f n j):i=j:=by
 rcases Nat.lt_trichotomy i j with h|h|h
 ·have h1:=c.lo i h
  have h2:=c.le
  rw[a.hi i (Nat.le_refl _) (by omega)]at h1;cases h1
 ·exact h
 ·have h1:=a.lo j h
  have h2:=a.le
  rw[c.hi j (Nat.le_refl _) (by omega)]at h1;cases h1
set_option maxHeartbeats 8000000 in
theorem ret71(hi:Off is)(h:VOk b){w:Int}{i:Nat}(hm:Least (zDa b w) 1000 i):RetP Tryd.prog is orc 71 [crU b [],.int .i64 w] (.int .i64 i):=by
 refine yC body71 pure71 (hi 71 (by decide)) rfl rfl (yh (zBC b [] 4) (.int _ _ _)) (.inl (.int _ _ _)) ?_
 refine kQ (yH rfl rfl (yH rfl rfl (zA rfl (zC ?_))))
 refine zK [(2,U.box 0 0),(3,U.box 1 0)] ([SB.box [.int .i64 (Bk.bg b),.lst .ro 1 (zF (Bk.opens b)),.lst .ro 1 (zF (Bk.ends b)),.lst .ro 5 (scsU (Bk.scenes b)),.int .i64 (Bk.fee b),.lst .ro 1 (zF (Bk.loads b)),.int .i64 (Bk.cart b),.int .i64 (Bk.cost b),.int .i64 (Bk.feast b),.lst .ro 1 (zF (Bk.shares b)),.lst .ro 1 (zF [])],SB.box [.int .i64 w]]) (.cons rfl (.cons rfl (.nil rfl))) rfl fun fr=>?_
 refine kQ ?_
 refine zFd rfl ?_
 refine zCY rfl (wpc90 hi (n:=1000) (f:=zDa b w) (by omega) (fun x y a c d=>zGi b w a d) (fun x e hx=>wpc91 hi h hx (yP rfl) (yP rfl))) (.lrefl _) (fun u st1 hM=>?_)
 obtain⟨⟨m2,hm2,rfl⟩,e,hY⟩:=hM
 have hmm:=least_uni hm hm2
 subst hmm
 have hle:=hm.le
 refine zA rfl (zC (zZ ?_))
 refine⟨.inr rfl,_,.cons _ _ _ _ (.tmp 4) .nil,?_⟩
 exact .refl _
end
section
variable {is:FuncId→Bool}{orc:Known}{b:Bk}
noncomputable def b40:Code:=(Tryd.f40.body).getD .skip
theorem body40:bodyOf Tryd.prog 40=some (31,b40,[.tmp 2,.tmp 3]):=by kernel_rfl
theorem pure40:pureFn Tryd.prog 40=true:=by kernel_rfl
set_option maxHeartbeats 8000000 in
theorem wpc60z(hi:Off is)(hb:VOk b){st:List SB}:WpC Tryd.prog is orc 60 [b.u,.lst .ro 1 []] st fun u st'=>u=.tup [b.u,.int .i64 0]∧∃e,st'=st++e:=by
 refine zDH body60 pure60 rfl rfl ?_
 have q17:=ret17 (orc:=orc) hi b
 rw[if_pos ((zDd b).2 hb)]at q17
 refine kQ (yH rfl rfl (zu rfl ze70 ?_))
 refine zA rfl (zC ?_)
 refine zK [(1,.lst .ro 1 []),(2,U.box (List.length st) 0),(4,U.box (List.length (st++[SB.box (Bk.cs b)])) 0)] (st++[SB.box (Bk.cs b)]++[SB.box [.int .i64 0,.lst .full 0 [],.lst .full 0 [],.lst .full 0 [],.int .i64 0,.lst .full 0 [],.int .i64 0,.int .i64 0,.int .i64 0,.lst .full 0 []]]) (.cons rfl (.cons rfl (.cons rfl (.nil rfl)))) rfl fun fr=>?_
 refine k_seq (kQ (zP rfl rfl (yP (zc _ _)) sh25 rfl ?_))
 refine zN rfl (q17) (.lrefl _) (zA rfl (zC (kQ (zB rfl (wF rfl rfl rfl (zC (k_cF rfl rfl ?_)))))))
 refine zU (kQ (zP rfl rfl (yP (zc _ _)) sh25 rfl ?_))
 refine wY rfl ze70 pl70 rfl rfl ?_
 refine zu rfl ze70 ?_
 refine zd rfl (zc _ _) sh70 rfl rfl rfl rfl rfl ?_
 refine zC ?_
 refine zK [(1,.lst .ro 1 []),(4,U.box (List.length (st++[SB.box (Bk.cs b)])) 0),(7,U.box (List.length (st++[SB.box (Bk.cs b)]++[SB.box [.int .i64 0,.lst .full 0 [],.lst .full 0 [],.lst .full 0 [],.int .i64 0,.lst .full 0 [],.int .i64 0,.int .i64 0,.int .i64 0,.lst .full 0 []]])) 0)] (st++[SB.box (Bk.cs b)]++[SB.box [.int .i64 0,.lst .full 0 [],.lst .full 0 [],.lst .full 0 [],.int .i64 0,.lst .full 0 [],.int .i64 0,.int .i64 0,.int .i64 0,.lst .full 0 []]]++[SB.box (Bk.cs b)]) (.cons rfl (.cons rfl (.cons rfl (.nil rfl)))) (yW _ _ _) fun fr=>?_
 refine k_seq (kQ (zB rfl (zp rfl ty104 rfl rfl ?_)))
 refine zB rfl (zC (zQ ?_))
 refine yr (fun kk s2=>∃X:List SB,s2.st=st++X∧X[1]? =some (.box [.int .i64 0,.lst .full 0 [],.lst .full 0 [],.lst .full 0 [],.int .i64 0,.lst .full 0 [],.int .i64 0,.int .i64 0,.int .i64 0,.lst .full 0 []])∧X[2]? =some (.box (Bk.cs b))∧Holds s2 [(4,.box (st.length+1) 0),(7,.box (st.length+2) 0),(19,.int .i64 0),(20,.int .i64 0)]) (fun kk s2 hI=>?_) 0 _ ⟨[.box (Bk.cs b),.box [.int .i64 0,.lst .full 0 [],.lst .full 0 [],.lst .full 0 [],.int .i64 0,.lst .full 0 [],.int .i64 0,.int .i64 0,.int .i64 0,.lst .full 0 []],.box (Bk.cs b)],(by show((st++[SB.box _])++[SB.box _])++[SB.box _]=_;rw[List.append_assoc,List.append_assoc];rfl),rfl,rfl,.cons (by show U.box (st++[SB.box _]).length 0=_;simp) (.cons (by show U.box ((st++[SB.box _])++[SB.box _]).length 0=_;simp) (.cons rfl (.cons rfl (.nil rfl))))⟩
 obtain⟨X,hst2,x1,x2,hs2⟩:=hI
 have y1:=zGm (st:=st) x1
 have y2:=zGm (st:=st) x2
 refine zK _ _ hs2 hst2 fun fr2=>?_
 have hl:st.length+1<(st++X).length:=(List.getElem?_eq_some_iff.1 y1).1
 refine kQ (ze rfl rfl rfl (zC (k_seq (k_cF rfl rfl ?_))))
 refine yf (kQ (zP rfl rfl y2 sh70 rfl ?_))
 refine zd rfl y1 sh70 rfl rfl rfl rfl rfl ?_
 refine zA rfl (zC (zZ ?_))
 refine⟨.inr rfl,_,.cons _ _ _ _ (.cellN 4 70 (st.length+1) 0 10 (Bk.cs b) rfl (List.getElem?_set_self hl) sh70 rfl) (.cons _ _ _ _ (.tmp 5) .nil),_,.refl _,rfl,_,set_off⟩
theorem wpc60y(hi:Off is)(hb:zBF b=false){st:List SB}:WpC Tryd.prog is orc 60 [b.u,.lst .ro 1 []] st fun u st'=>u=.tup [zerU,.int .i64 100]∧∃e,st'=st++e:=by
 refine zDH body60 pure60 rfl rfl ?_
 have q17:=ret17 (orc:=orc) hi b
 rw[hb,if_neg (by decide)]at q17
 refine kQ (yH rfl rfl (zu rfl ze70 ?_))
 refine zA rfl (zC ?_)
 refine zK [(1,.lst .ro 1 []),(2,U.box (List.length st) 0),(4,U.box (List.length (st++[SB.box (Bk.cs b)])) 0)] (st++[SB.box (Bk.cs b)]++[SB.box [.int .i64 0,.lst .full 0 [],.lst .full 0 [],.lst .full 0 [],.int .i64 0,.lst .full 0 [],.int .i64 0,.int .i64 0,.int .i64 0,.lst .full 0 []]]) (.cons rfl (.cons rfl (.cons rfl (.nil rfl)))) rfl fun fr=>?_
 refine k_seq (kQ (zP rfl rfl (yP (zc _ _)) sh25 rfl ?_))
 refine zN rfl (q17) (.lrefl _) (zA rfl (zC (kQ (zB rfl (wF rfl rfl rfl (zC (k_cT rfl rfl ?_)))))))
 refine kQ (wY rfl ze70 pl70 rfl rfl ?_)
 refine zB rfl (zd rfl (zc _ _) sh70 rfl rfl rfl rfl rfl ?_)
 refine zA rfl (zC (zZ ?_))
 refine⟨.inr rfl,_,.cons _ _ _ _ (.cellN 4 70 (st++[SB.box (Bk.cs b)]).length 0 10 [.int .i64 0,.lst .full 0 [],.lst .full 0 [],.lst .full 0 [],.int .i64 0,.lst .full 0 [],.int .i64 0,.int .i64 0,.int .i64 0,.lst .full 0 []] rfl (by show(((st++[SB.box (Bk.cs b)])++[SB.box _]).set (st++[SB.box (Bk.cs b)]).length (SB.box _))[(st++[SB.box (Bk.cs b)]).length]? =_;rw[yW];exact zc _ _) sh70 rfl) (.cons _ _ _ _ (.tmp 5) .nil),_,.refl _,rfl,[SB.box (Bk.cs b),.box _],(by show((st++[SB.box (Bk.cs b)])++[SB.box _]).set (st++[SB.box (Bk.cs b)]).length (SB.box _)=_;rw[yW,List.append_assoc];rfl)⟩
theorem ret40j(hi:Off is)(hv:zBF b=false):RetP Tryd.prog is orc 40 [b.u] (.tup [.int .i64 0,.int .i64 100]):=by
 refine yC body40 pure40 (hi 40 (by decide)) rfl rfl (zAe (zAG b 4)) (.inr ⟨_,rfl,yh (k:=7) (.int _ _ _) (.int _ _ _)⟩) ?_
 refine kQ (yH rfl rfl (zA rfl (zA rfl (zC ?_))))
 refine zK [(1,U.box 0 0)] ([SB.box (Bk.cs b)]) (.cons rfl (.nil rfl)) rfl fun fr=>?_
 refine kQ (zP rfl rfl rfl sh25 rfl ?_)
 refine zCY rfl (wpc60y hi hv) (.lcons _ _ _ _ (.refl _) (.lcons _ _ _ _ (.nil _ _ _) (.lrefl _))) (fun u st1 hM=>?_)
 obtain⟨rfl,e,rfl⟩:=hM
 refine zB rfl (zR rfl rfl rfl (zR rfl rfl rfl (zu rfl ze70 ?_)))
 refine zd rfl (zc _ _) sh70 rfl rfl rfl rfl rfl ?_
 refine zA rfl (zC ?_)
 refine zK [(4,U.box (List.length (SB.box (Bk.cs b)::List.append [] e)) 0),(5,.int .i64 100)] (SB.box (Bk.cs b)::List.set (List.append (List.append [] e) [SB.box (zAU (V.cons (V.int .i64 (0:Int)) (V.cons V.nils (V.cons V.nils (V.cons V.nils (V.cons (V.int .i64 (0:Int)) (V.cons V.nils (V.cons (V.int .i64 (0:Int)) (V.cons (V.int .i64 (0:Int)) (V.cons (V.int .i64 (0:Int)) (V.cons V.nils V.nil)))))))))))]) (List.length (List.append [] e)) (SB.box [.int .i64 0,.lst .full 0 [],.lst .full 0 [],.lst .full 0 [],.int .i64 0,.lst .full 0 [],.int .i64 0,.int .i64 0,.int .i64 0,.lst .full 0 []])) (.cons rfl (.cons rfl (.nil rfl))) rfl fun fr=>?_
 refine k_seq (kQ (zB rfl (wF rfl rfl rfl (zC ?_))))
 refine zK [(4,U.box (List.length (SB.box (Bk.cs b)::List.append [] e)) 0),(5,.int .i64 100),(15,U.bool (decide ((100:Int)≠(0:Int))))] (SB.box (Bk.cs b)::List.set (List.append (List.append [] e) [SB.box (zAU (V.cons (V.int .i64 (0:Int)) (V.cons V.nils (V.cons V.nils (V.cons V.nils (V.cons (V.int .i64 (0:Int)) (V.cons V.nils (V.cons (V.int .i64 (0:Int)) (V.cons (V.int .i64 (0:Int)) (V.cons (V.int .i64 (0:Int)) (V.cons V.nils V.nil)))))))))))]) (List.length (List.append [] e)) (SB.box [.int .i64 0,.lst .full 0 [],.lst .full 0 [],.lst .full 0 [],.int .i64 0,.lst .full 0 [],.int .i64 0,.int .i64 0,.int .i64 0,.lst .full 0 []])) (.cons rfl (.cons rfl (.cons rfl (.nil rfl)))) rfl fun fr=>?_
 refine k_cT rfl rfl ?_
 refine kQ (zB rfl (zA rfl (zA rfl (zC (zZ ?_)))))
 refine⟨.inr rfl,_,.cons _ _ _ _ (.tmp 2) (.cons _ _ _ _ (.tmp 3) .nil),?_⟩
 exact .refl _
theorem ret40n(hi:Off is)(h:VOk b)(ho:lgt b []=none):RetP Tryd.prog is orc 40 [b.u] (.tup [.int .i64 0,.int .i64 4]):=by
 refine yC body40 pure40 (hi 40 (by decide)) rfl rfl (zAe (zAG b 4)) (.inr ⟨_,rfl,yh (k:=7) (.int _ _ _) (.int _ _ _)⟩) ?_
 have q70:=ret70 (orc:=orc) hi h.toBOk (dok_nil b)
 rw[ho]at q70
 have q70:RetP Tryd.prog is orc 70 [crU b []] (.tup [.lst .full 0 [],.bool false]):=q70
 refine kQ (yH rfl rfl (zA rfl (zA rfl (zC ?_))))
 refine zK [(1,U.box 0 0)] ([SB.box (Bk.cs b)]) (.cons rfl (.nil rfl)) rfl fun fr=>?_
 refine kQ (zP rfl rfl rfl sh25 rfl ?_)
 refine zCY rfl (wpc60z hi h) (.lcons _ _ _ _ (.refl _) (.lcons _ _ _ _ (.nil _ _ _) (.lrefl _))) (fun u st1 hM=>?_)
 obtain⟨rfl,e,hY⟩:=hM
 refine zB rfl (zR rfl rfl rfl (zR rfl rfl rfl (zu rfl ze70 ?_)))
 refine zd rfl (zc _ _) sh70 rfl rfl rfl rfl rfl ?_
 refine zA rfl (zC ?_)
 refine zK [(4,U.box (List.length st1) 0),(5,.int .i64 0)] (st1++[SB.box (Bk.cs b)]) (.cons rfl (.cons rfl (.nil rfl))) (yW _ _ _) fun fr=>?_
 refine k_seq (kQ (zB rfl (wF rfl rfl rfl (zC (k_cF rfl rfl ?_)))))
 refine zU (kQ (zP rfl rfl (zc _ _) sh70 rfl ?_))
 refine wY rfl ze72 pl72 rfl rfl ?_
 refine zu rfl ze72 ?_
 refine zd rfl (zc _ _) sh72 rfl rfl rfl rfl rfl ?_
 refine zC ?_
 refine zK [(4,U.box (List.length st1) 0),(6,U.box (List.length (st1++[SB.box (Bk.cs b)])) 0)] (st1++[SB.box (Bk.cs b)]++[SB.box [.int .i64 (Bk.bg b),.lst .ro 1 (zF (Bk.opens b)),.lst .ro 1 (zF (Bk.ends b)),.lst .ro 5 (scsU (Bk.scenes b)),.int .i64 (Bk.fee b),.lst .ro 1 (zF (Bk.loads b)),.int .i64 (Bk.cart b),.int .i64 (Bk.cost b),.int .i64 (Bk.feast b),.lst .ro 1 (zF (Bk.shares b)),.lst .full 0 []]]) (.cons rfl (.cons rfl (.nil rfl))) (yW _ _ _) fun fr=>?_
 refine kQ (zP rfl rfl (zc _ _) sh72 rfl ?_)
 refine zN rfl (q70) (.lcons _ _ _ _ (.agg _ _ (.lcons _ _ _ _ (.refl _) (.lcons _ _ _ _ (.refl _) (.lcons _ _ _ _ (.refl _) (.lcons _ _ _ _ (.refl _) (.lcons _ _ _ _ (.refl _) (.lcons _ _ _ _ (.refl _) (.lcons _ _ _ _ (.refl _) (.lcons _ _ _ _ (.refl _) (.lcons _ _ _ _ (.refl _) (.lcons _ _ _ _ (.refl _) (.lcons _ _ _ _ (.nil _ _ _) (.lrefl _))))))))))))) (.lrefl _)) ?_
 refine zB rfl (zR rfl rfl rfl (zR rfl rfl rfl (zA rfl (zA rfl (zC (k_seq (kQ (zB rfl ?_))))))))
 refine yB rfl rfl (zC (k_cT rfl rfl ?_))
 refine kQ (zA rfl (zA rfl (zC (zZ ?_))))
 refine⟨.inr rfl,_,.cons _ _ _ _ (.tmp 2) (.cons _ _ _ _ (.tmp 3) .nil),?_⟩
 exact .refl _
theorem ret40s(hi:Off is)(h:VOk b){m:List Int}(ho:lgt b []=some m){i:Nat}(hm:Least (zDa b (wt b m)) 1000 i):RetP Tryd.prog is orc 40 [b.u] (.tup [.int .i64 i,.int .i64 0]):=by
 refine yC body40 pure40 (hi 40 (by decide)) rfl rfl (zAe (zAG b 4)) (.inr ⟨_,rfl,yh (k:=7) (.int _ _ _) (.int _ _ _)⟩) ?_
 have q70:=ret70 (orc:=orc) hi h.toBOk (dok_nil b)
 rw[ho]at q70
 have q70:RetP Tryd.prog is orc 70 [crU b []] (.tup [.lst .ro 1 (zF m),.bool true]):=q70
 have hc:=chs_cho (zBs ho).1.1
 have hl:=hc.len
 have hsn:=h.sn
 have q72:=ret72 (orc:=orc) hi h.toBOk (L:=m) (by omega) hc.rg
 have q71:=ret71 (orc:=orc) hi h hm
 refine kQ (yH rfl rfl (zA rfl (zA rfl (zC ?_))))
 refine zK [(1,U.box 0 0)] ([SB.box (Bk.cs b)]) (.cons rfl (.nil rfl)) rfl fun fr=>?_
 refine kQ (zP rfl rfl rfl sh25 rfl ?_)
 refine zCY rfl (wpc60z hi h) (.lcons _ _ _ _ (.refl _) (.lcons _ _ _ _ (.nil _ _ _) (.lrefl _))) (fun u st1 hM=>?_)
 obtain⟨rfl,e,hY⟩:=hM
 refine zB rfl (zR rfl rfl rfl (zR rfl rfl rfl (zu rfl ze70 ?_)))
 refine zd rfl (zc _ _) sh70 rfl rfl rfl rfl rfl ?_
 refine zA rfl (zC ?_)
 refine zK [(4,U.box (List.length st1) 0),(5,.int .i64 0)] (st1++[SB.box (Bk.cs b)]) (.cons rfl (.cons rfl (.nil rfl))) (yW _ _ _) fun fr=>?_
 refine k_seq (kQ (zB rfl (wF rfl rfl rfl (zC (k_cF rfl rfl ?_)))))
 refine zU (kQ (zP rfl rfl (zc _ _) sh70 rfl ?_))
 refine wY rfl ze72 pl72 rfl rfl ?_
 refine zu rfl ze72 ?_
 refine zd rfl (zc _ _) sh72 rfl rfl rfl rfl rfl ?_
 refine zC ?_
 refine zK [(4,U.box (List.length st1) 0),(6,U.box (List.length (st1++[SB.box (Bk.cs b)])) 0)] (st1++[SB.box (Bk.cs b)]++[SB.box [.int .i64 (Bk.bg b),.lst .ro 1 (zF (Bk.opens b)),.lst .ro 1 (zF (Bk.ends b)),.lst .ro 5 (scsU (Bk.scenes b)),.int .i64 (Bk.fee b),.lst .ro 1 (zF (Bk.loads b)),.int .i64 (Bk.cart b),.int .i64 (Bk.cost b),.int .i64 (Bk.feast b),.lst .ro 1 (zF (Bk.shares b)),.lst .full 0 []]]) (.cons rfl (.cons rfl (.nil rfl))) (yW _ _ _) fun fr=>?_
 refine kQ (zP rfl rfl (zc _ _) sh72 rfl ?_)
 refine zN rfl (q70) (.lcons _ _ _ _ (.agg _ _ (.lcons _ _ _ _ (.refl _) (.lcons _ _ _ _ (.refl _) (.lcons _ _ _ _ (.refl _) (.lcons _ _ _ _ (.refl _) (.lcons _ _ _ _ (.refl _) (.lcons _ _ _ _ (.refl _) (.lcons _ _ _ _ (.refl _) (.lcons _ _ _ _ (.refl _) (.lcons _ _ _ _ (.refl _) (.lcons _ _ _ _ (.refl _) (.lcons _ _ _ _ (.nil _ _ _) (.lrefl _))))))))))))) (.lrefl _)) ?_
 refine zB rfl (zR rfl rfl rfl (zR rfl rfl rfl (zA rfl (zA rfl (zC (k_seq (kQ (zB rfl ?_))))))))
 refine yB rfl rfl (zC (k_cF rfl rfl ?_))
 refine zU (k_seq (zAz [.read true,.read true,.plain,.read false,.plain,.plain,.plain] (by kernel_rfl) (by kernel_rfl) (by kernel_rfl) ?_))
 refine yM rfl (zP rfl rfl (zc _ _) sh72 rfl (zC rfl)) ?_
 refine yM rfl (zP rfl rfl (yP (zc _ _)) sh70 rfl (zC rfl)) ?_
 refine zG (zB rfl (zC rfl)) (zBD rfl (q72) (.int _ _) (.lrefl _) ?_)
 refine zG (zN rfl (q71) (.lcons _ _ _ _ (.agg _ _ (.lcons _ _ _ _ (.refl _) (.lcons _ _ _ _ (.refl _) (.lcons _ _ _ _ (.refl _) (.lcons _ _ _ _ (.refl _) (.lcons _ _ _ _ (.refl _) (.lcons _ _ _ _ (.refl _) (.lcons _ _ _ _ (.refl _) (.lcons _ _ _ _ (.refl _) (.lcons _ _ _ _ (.refl _) (.lcons _ _ _ _ (.refl _) (.lcons _ _ _ _ (.nil _ _ _) (.lrefl _))))))))))))) (.lrefl _)) (zC rfl)) ?_
 refine zG (zA rfl (zC rfl)) ?_
 refine zG (zA rfl (zC rfl)) ?_
 refine zCg ?_
 refine zZ ?_
 refine⟨.inr rfl,_,.cons _ _ _ _ (.tmp 2) (.cons _ _ _ _ (.tmp 3) .nil),?_⟩
 exact .refl _
end
end Go.Proofs.YtlknfhjfkcboiaaDoor.night
