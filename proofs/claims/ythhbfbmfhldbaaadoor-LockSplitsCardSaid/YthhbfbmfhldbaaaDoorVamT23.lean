import Derived.Test.YthhbfbmfhldbaaaDoorVamT22
set_option linter.unusedVariables false
set_option linter.unusedSimpArgs false
set_option linter.constructorNameAsVariable false
namespace Go.Proofs.YthhbfbmfhldbaaaDoor.locks
open Vam
section
variable {is:FuncId→Bool}{orc:Known}{l:Ln}
section ops
variable {P:Program}{s:St}{all ops:List Oper}{d:Nat}{x y:Operand}{xt yt t:TypeId}{p:String}{e:Array Edge}{Q:St→Prop}{a c:Int}
end ops
theorem fc_iff{k:Nat}:fcF l k=true↔at' l.slots k≠ -1∧((∀p∈splL l,at' p k≠0)∨∀p∈splL l,at' p k=0):=by
 unfold fcF woF strF somF
 rw[Bool.and_eq_true,Bool.not_eq_true',Bool.not_eq_true',decide_eq_false_iff_not,Bool.and_eq_false_iff,decide_eq_false_iff_not,decide_eq_false_iff_not]
 refine and_congr Iff.rfl (or_congr ?_ ?_)
 ·unfold cntL
  rw[Nat.not_lt,Nat.le_zero_eq,List.length_eq_zero_iff,List.filter_eq_nil_iff]
  unfold plF
  exact⟨fun h p hp e=>h p hp (kF e),fun h p hp e=>h p hp (of_decide_eq_true e)⟩
 ·have hc:=cntL_le (splL l) k
  rw[Nat.not_lt]
  unfold cntL at hc ⊢
  constructor
  ·intro h p hp
   have he:((splL l).filter fun p=>plF p 0 k).length=(splL l).length:=by omega
   have:=(List.filter_eq_self).1 ((List.filter_sublist (l:=splL l) (p:=fun p=>plF p 0 k)).eq_of_length he) p hp
   exact of_decide_eq_true this
  ·intro h
   have e:(splL l).filter (fun p=>plF p 0 k)=splL l:=List.filter_eq_self.2 fun p hp=>kF (h p hp)
   rw[e];exact Nat.le_refl _
theorem spl_str(h:VL l){p:List Int}(hp:p∈splL l){k:Nat}(hk:k<l.slots.length)(hs:at' l.slots k≠ -1):at' p k=0∨at' p k=1:=by
 rcases wn ((zBS.1 ((spl_div h).1 hp)).2.1 k hk)with ⟨_,e⟩|⟨e,_⟩
 ·exact absurd e hs
 ·exact e
theorem str_lt{k:Nat}(hs:at' l.slots k≠ -1):k<l.slots.length:=by
 rcases Nat.lt_or_ge k l.slots.length with c|c
 ·exact c
 ·exact absurd (zEc c) hs
end
section
variable {is:FuncId→Bool}{orc:Known}{l:Ln}
noncomputable def b18:Code:=(Tryd.f18.body).getD .skip
theorem body18:bodyOf Tryd.prog 18=some (56,b18,[.tmp 2]):=by kernel_rfl
theorem pure18:pureFn Tryd.prog 18=true:=by kernel_rfl
def ok0(l:Ln):Bool:=((inS 1 16 (l.slots.length:Int)&&inS 0 255 l.left)&&inS 0 255 l.right)&&inS 1 16 l.run
def okT(l:Ln)(i:Nat):Bool:=(l.slots.take i).all (inS (-1) 7)
def smT(l:Ln)(i:Nat):Bool:=(l.slots.take i).any fun x=>decide (x ≥ 0)
theorem okT_up{i:Nat}{x:Int}(h:l.slots[i]? =some x):okT l (i+1)=(okT l i&&inS (-1) 7 x)∧smT l (i+1)=(smT l i||decide (x ≥ 0)):=by
 unfold okT smT
 rw[List.take_add_one,h]
 simp
theorem ok_no(h:ok0 l=false):zz l=false:=by
 cases c:zz l with
 |false=>rfl
 |true=>
  have v:=yl.1 c
  have hn:=v.n
  unfold ok0 at h
  rw[wg.2 (show(1:Int)≤l.slots.length∧(l.slots.length:Int)≤16 by omega),wg.2 v.lf,wg.2 v.rt,wg.2 v.rn]at h
  cases h
theorem ok_not{i:Nat}(h:okT l i=false):zz l=false:=by
 cases c:zz l with
 |false=>rfl
 |true=>
  have v:=yl.1 c
  have:okT l i=true:=List.all_eq_true.2 fun x hx=>wg.2 (v.tn x (List.mem_of_mem_take hx))
  rw[this]at h;cases h
theorem ok_yes(h0:ok0 l=true)(h:okT l l.slots.length=true):zz l=smT l l.slots.length:=by
 unfold ok0 at h0
 simp only[Bool.and_eq_true,wg]at h0
 unfold okT at h
 unfold smT
 rw[List.take_length]at h ⊢
 rw[List.all_eq_true]at h
 have e:zz l=true↔(l.slots.any fun x=>decide (x ≥ 0))=true:=by
  rw[yl,List.any_eq_true]
  constructor
  ·intro v
   obtain⟨i,hi,hs⟩:=v.st
   unfold strF at hs
   rw[Bool.not_eq_true',decide_eq_false_iff_not]at hs
   have hil:=str_lt hs
   have hin:at' l.slots i∈l.slots:=by
    unfold at';rw[List.getElem?_eq_getElem hil];exact List.getElem_mem hil
   have:=v.tn _ hin
   exact⟨_,hin,kF (by omega)⟩
  ·rintro⟨x,hx,hp⟩
   have hp:=of_decide_eq_true hp
   obtain⟨i,hi,rfl⟩:=List.mem_iff_getElem.1 hx
   refine⟨by omega,h0.2,fun y hy=>wg.1 (h y hy),h0.1.1.2,h0.1.2,i,by omega,?_⟩
   unfold strF at'
   rw[List.getElem?_eq_getElem hi,kG (show ¬ (some l.slots[i]).getD (-1)= -1 by show ¬ l.slots[i]= -1;omega)];rfl
 cases c:zz l with
 |true=>exact(e.1 c).symm
 |false=>
  cases d:(l.slots.any fun x=>decide (x ≥ 0))with
  |false=>rfl
  |true=>rw[e.2 d]at c;cases c
set_option maxHeartbeats 16000000 in
theorem ret18(hi:Off is)(l:Ln):RetP Tryd.prog is orc 18 [l.u] (.int .i64 (if zz l=true then 0 else 70)):=by
 refine zw body18 pure18 (hi 18 (by decide)) rfl rfl (wA (yk l 5)) (.inl (.int _ _ _)) ?_
 have q51a:=ret51 (orc:=orc) hi l.slots.length 1 16
 have q51b:=ret51 (orc:=orc) hi l.left 0 255
 have q51c:=ret51 (orc:=orc) hi l.right 0 255
 have q51d:=ret51 (orc:=orc) hi l.run 1 16
 refine kQ (zk rfl rfl (zA rfl (zB ?_)))
 refine zH [(1,U.box 0 0)] ([SB.box [.lst .ro 1 (zE (Ln.slots l)),.int .i64 (Ln.left l),.int .i64 (Ln.right l),.int .i64 (Ln.run l)]]) (.n1 rfl) rfl fun fr=>?_
 refine k_cut (fun s5=>s5.st=[.box l.cs]∧Holds s5 [(1,.box 0 0),(3,.bool (ok0 l))]) ?_ ?_
 ·unfold ok0
  cases c1:inS 1 16 (l.slots.length:Int)with
  |false=>
   rw[c1]at q51a
   refine k_region (kw rfl zS (kA sh22 rfl (zq rfl ty22 rfl (List.length_map _) ?_)))
   refine zN rfl (q51a) (.lrefl _) (zC rfl (ke rfl (ke rfl (ke rfl (kD rfl ?_)))))
   refine zAa [(1,U.box 0 0),(14,.bool false)] [] ([SB.box [.lst .ro 1 (zE (Ln.slots l)),.int .i64 (Ln.left l),.int .i64 (Ln.right l),.int .i64 (Ln.run l)]]) (.n2 rfl) rfl rfl fun fr=>?_
   refine zC rfl (ke rfl (ke rfl (ke rfl (kD rfl ?_))))
   refine zC rfl (ke rfl (ke rfl (ke rfl ?_)))
   refine zAa [(1,U.box 0 0),(20,.bool false)] [] ([SB.box [.lst .ro 1 (zE (Ln.slots l)),.int .i64 (Ln.left l),.int .i64 (Ln.right l),.int .i64 (Ln.run l)]]) (.n2 rfl) rfl rfl fun fr=>?_
   refine kD rfl ?_
   refine zA rfl (zB ?_)
   exact⟨rfl,rfl,.cons rfl (.n1 rfl)⟩
  |true=>
   rw[c1]at q51a
   cases c2:inS 0 255 l.left with
   |false=>
    rw[c2]at q51b
    refine k_region (kw rfl zS (kA sh22 rfl (zq rfl ty22 rfl (List.length_map _) ?_)))
    refine zN rfl (q51a) (.lrefl _) (zC rfl (kf rfl (kw rfl zCW (kf rfl (kA sh3 rfl (kf rfl (zN rfl (q51b) (.lrefl _) (kE rfl ?_))))))))
    refine zAa [(1,U.box 0 0),(14,.bool false)] [] ([SB.box [.lst .ro 1 (zE (Ln.slots l)),.int .i64 (Ln.left l),.int .i64 (Ln.right l),.int .i64 (Ln.run l)]]) (.n2 rfl) rfl rfl fun fr=>?_
    refine zC rfl (ke rfl (ke rfl (ke rfl (kD rfl ?_))))
    refine zC rfl (ke rfl (ke rfl (ke rfl ?_)))
    refine zAa [(1,U.box 0 0),(20,.bool false)] [] ([SB.box [.lst .ro 1 (zE (Ln.slots l)),.int .i64 (Ln.left l),.int .i64 (Ln.right l),.int .i64 (Ln.run l)]]) (.n2 rfl) rfl rfl fun fr=>?_
    refine kD rfl ?_
    refine zA rfl (zB ?_)
    exact⟨rfl,rfl,.cons rfl (.n1 rfl)⟩
   |true=>
    rw[c2]at q51b
    cases c3:inS 0 255 l.right with
    |false=>
     rw[c3]at q51c
     refine k_region (kw rfl zS (kA sh22 rfl (zq rfl ty22 rfl (List.length_map _) ?_)))
     refine zN rfl (q51a) (.lrefl _) (zC rfl (kf rfl (kw rfl zCW (kf rfl (kA sh3 rfl (kf rfl (zN rfl (q51b) (.lrefl _) (kE rfl ?_))))))))
     refine zAa [(1,U.box 0 0),(14,.bool true)] [] ([SB.box [.lst .ro 1 (zE (Ln.slots l)),.int .i64 (Ln.left l),.int .i64 (Ln.right l),.int .i64 (Ln.run l)]]) (.n2 rfl) rfl rfl fun fr=>?_
     refine zC rfl (kf rfl (kw rfl zEG (kf rfl (kA sh3 rfl (kf rfl (zN rfl (q51c) (.lrefl _) (kE rfl ?_)))))))
     refine zC rfl (ke rfl (ke rfl (ke rfl ?_)))
     refine zAa [(1,U.box 0 0),(20,.bool false)] [] ([SB.box [.lst .ro 1 (zE (Ln.slots l)),.int .i64 (Ln.left l),.int .i64 (Ln.right l),.int .i64 (Ln.run l)]]) (.n2 rfl) rfl rfl fun fr=>?_
     refine kD rfl ?_
     refine zA rfl (zB ?_)
     exact⟨rfl,rfl,.cons rfl (.n1 rfl)⟩
    |true=>
     rw[c3]at q51c
     refine k_region (kw rfl zS (kA sh22 rfl (zq rfl ty22 rfl (List.length_map _) ?_)))
     refine zN rfl (q51a) (.lrefl _) (zC rfl (kf rfl (kw rfl zCW (kf rfl (kA sh3 rfl (kf rfl (zN rfl (q51b) (.lrefl _) (kE rfl ?_))))))))
     refine zAa [(1,U.box 0 0),(14,.bool true)] [] ([SB.box [.lst .ro 1 (zE (Ln.slots l)),.int .i64 (Ln.left l),.int .i64 (Ln.right l),.int .i64 (Ln.run l)]]) (.n2 rfl) rfl rfl fun fr=>?_
     refine zC rfl (kf rfl (kw rfl zEG (kf rfl (kA sh3 rfl (kf rfl (zN rfl (q51c) (.lrefl _) (kE rfl ?_)))))))
     refine zC rfl (kf rfl (kw rfl zAA (kf rfl (kA sh3 rfl (kf rfl (zN rfl (q51d) (.lrefl _) ?_))))))
     refine zAa [(1,U.box 0 0),(20,.bool true),(23,U.bool (inS (1:Int) (16:Int) (Ln.run l)))] [] ([SB.box [.lst .ro 1 (zE (Ln.slots l)),.int .i64 (Ln.left l),.int .i64 (Ln.right l),.int .i64 (Ln.run l)]]) (.n3 rfl) rfl rfl fun fr=>?_
     refine kE rfl ?_
     refine zA rfl (zB ?_)
     exact⟨rfl,rfl,.cons rfl (.n1 rfl)⟩
 ·rintro s5 ⟨hst5,hs5⟩
  clear q51a q51b q51c q51d
  refine zH _ _ hs5 hst5 fun fr5=>?_
  cases h0:ok0 l with
  |false=>
   rw[ok_no h0,if_neg (by decide)]
   refine kQ (zA rfl (zB (k_seq (kQ (zA rfl (zB (zI ?_)))))))
   refine yX (fun kk s6=>s6.st=[.box l.cs]∧Holds s6 [(1,.box 0 0),(3,.bool false)]) (fun kk s6 hJ=>?_) 0 _ ⟨rfl,.cons rfl (.n1 rfl)⟩
   obtain⟨hst6,hs6⟩:=hJ
   refine zH _ _ hs6 hst6 fun fr6=>?_
   refine k_seq (kQ (zC rfl (zC rfl (ke rfl (ke rfl (ke rfl (ke rfl (ke rfl (kD rfl ?_)))))))))
   refine zB (k_cF rfl rfl ?_)
   refine zj (k_seq (kQ (zC rfl (yc rfl rfl (zC rfl (ke rfl (ke rfl (kE rfl ?_))))))))
   refine zB ?_
   refine zH [(55,.bool true)] ([SB.box (Ln.cs l)]) (.n1 rfl) rfl fun fr=>?_
   refine k_cT rfl rfl ?_
   refine kQ (zA rfl (zB (zV ?_)))
   refine⟨.inr rfl,_,.cons _ _ _ _ (.tmp 2) .nil,?_⟩
   exact .refl _
  |true=>
   have hn16:l.slots.length≤16:=by
    have h1:=h0
    unfold ok0 at h1
    simp only[Bool.and_eq_true,wg]at h1
    omega
   refine kQ (zA rfl (zB (k_seq (kQ (zA rfl (zB (zI ?_)))))))
   refine yX (fun kk s6=>∃i:Nat,kk+i=l.slots.length∧s6.st=[.box l.cs]∧Holds s6 [(1,.box 0 0),(3,.bool (okT l i)),(4,.bool (smT l i)),(5,.int .i64 i)]) (fun kk s6 hJ=>?_) l.slots.length _ ⟨0,rfl,rfl,.c4 rfl rfl rfl rfl (.nil rfl)⟩
   obtain⟨i,hk,hst6,hs6⟩:=hJ
   refine zH _ _ hs6 hst6 fun fr6=>?_
   cases c1:okT l i with
   |false=>
    rw[ok_not c1,if_neg (by decide)]
    refine k_seq (kQ (zC rfl (zC rfl (ke rfl (ke rfl (ke rfl (ke rfl (ke rfl (kD rfl ?_)))))))))
    refine zB (k_cF rfl rfl ?_)
    refine zj (k_seq (kQ (zC rfl (yc rfl rfl (zC rfl (ke rfl (ke rfl (kE rfl ?_))))))))
    refine zB ?_
    refine zH [(55,.bool true)] ([SB.box (Ln.cs l)]) (.n1 rfl) rfl fun fr=>?_
    refine k_cT rfl rfl ?_
    refine kQ (zA rfl (zB (zV ?_)))
    refine⟨.inr rfl,_,.cons _ _ _ _ (.tmp 2) .nil,?_⟩
    exact .refl _
   |true=>
    by_cases hin:i<l.slots.length
    ·obtain⟨x,hx⟩:∃x,l.slots[i]? =some x:=⟨l.slots[i],List.getElem?_eq_getElem hin⟩
     obtain⟨u1,u2⟩:=okT_up hx
     rw[c1,Bool.true_and]at u1
     have q51:=ret51 (orc:=orc) hi x (-1) 7
     cases c2:smT l i with
     |false=>
      rw[c2,Bool.false_or]at u2
      refine k_seq (kQ (zC rfl (zC rfl (kf rfl (zC rfl (kf rfl (kw rfl zS (kf rfl (kA sh22 rfl (kf rfl (zq rfl ty22 rfl (List.length_map _) ?_)))))))))))
      refine kf rfl (kp rfl (kE rfl ?_))
      refine zB (k_cT rfl (kF (by omega)) (zL (k_seq (zI (kQ (kw rfl zS (kA sh22 rfl (zC rfl (yA (u:=.int .i64 (x)) rfl ty22 rfl rfl (Int.natCast_nonneg _) (by simp[hx]) cl3 ?_)))))))))
      refine kC sh3 rfl ?_
      refine zN rfl (q51) (.lrefl _) (zA rfl (zB (k_region (zC rfl (zC rfl (kf rfl (kw rfl zS (kf rfl (kA sh22 rfl (kf rfl (zC rfl (kf rfl (yA (u:=.int .i64 (x)) rfl ty22 rfl rfl (Int.natCast_nonneg _) (by simp[hx]) cl3 ?_)))))))))))))
      refine kf rfl (kC sh3 rfl ?_)
      refine kf rfl (o_geq rfl rfl rfl (kD rfl ?_))
      refine zA rfl (zB (k_region (zC rfl ?_)))
      refine kz rfl (by unfold I64;omega) (zA rfl (zB ?_))
      exact⟨kk - 1,by omega,i+1,by omega,rfl,.cons rfl (.cons (by rw[u1];rfl) (.cons (by rw[u2];rfl) (.n1 rfl)))⟩
     |true=>
      rw[c2,Bool.true_or]at u2
      refine k_seq (kQ (zC rfl (zC rfl (kf rfl (zC rfl (kf rfl (kw rfl zS (kf rfl (kA sh22 rfl (kf rfl (zq rfl ty22 rfl (List.length_map _) ?_)))))))))))
      refine kf rfl (kp rfl (kE rfl ?_))
      refine zB (k_cT rfl (kF (by omega)) (zL (k_seq (zI (kQ (kw rfl zS (kA sh22 rfl (zC rfl (yA (u:=.int .i64 (x)) rfl ty22 rfl rfl (Int.natCast_nonneg _) (by simp[hx]) cl3 ?_)))))))))
      refine kC sh3 rfl ?_
      refine zN rfl (q51) (.lrefl _) (zA rfl (zB (k_region (zC rfl (zC rfl (ke rfl (ke rfl (ke rfl (ke rfl (ke rfl (ke rfl (kE rfl ?_))))))))))))
      refine zA rfl (zB (k_region (zC rfl ?_)))
      refine kz rfl (by unfold I64;omega) (zA rfl (zB ?_))
      exact⟨kk - 1,by omega,i+1,by omega,rfl,.cons rfl (.cons (by rw[u1];rfl) (.cons (by rw[u2];rfl) (.n1 rfl)))⟩
    ·have hie:i=l.slots.length:=by omega
     subst hie
     rw[ok_yes h0 c1]
     cases c2:smT l l.slots.length with
     |false=>
      rw[if_neg (by decide)]
      refine k_seq (kQ (zC rfl (zC rfl (kf rfl (zC rfl (kf rfl (kw rfl zS (kf rfl (kA sh22 rfl (kf rfl (zq rfl ty22 rfl (List.length_map _) ?_)))))))))))
      refine kf rfl (kp rfl (kE rfl ?_))
      refine zB (k_cF rfl (kG (by omega)) (zj (k_seq (kQ (zC rfl (yc rfl rfl (zC rfl (kf rfl (zC rfl (kf rfl (yc rfl rfl (kD rfl ?_))))))))))))
      refine zB ?_
      refine zH [(55,U.bool !Bool.false)] ([SB.box (Ln.cs l)]) (.n1 rfl) rfl fun fr=>?_
      refine k_cT rfl rfl ?_
      refine kQ (zA rfl (zB (zV ?_)))
      refine⟨.inr rfl,_,.cons _ _ _ _ (.tmp 2) .nil,?_⟩
      exact .refl _
     |true=>
      rw[if_pos rfl]
      refine k_seq (kQ (zC rfl (zC rfl (kf rfl (zC rfl (kf rfl (kw rfl zS (kf rfl (kA sh22 rfl (kf rfl (zq rfl ty22 rfl (List.length_map _) ?_)))))))))))
      refine kf rfl (kp rfl (kE rfl ?_))
      refine zB (k_cF rfl (kG (by omega)) (zj (k_seq (kQ (zC rfl (yc rfl rfl (zC rfl (kf rfl (zC rfl (kf rfl (yc rfl rfl (kD rfl ?_))))))))))))
      refine zB ?_
      refine zH [(55,U.bool !Bool.true)] ([SB.box (Ln.cs l)]) (.n1 rfl) rfl fun fr=>?_
      refine k_cF rfl rfl ?_
      refine zL (kQ (zA rfl (zB (zV ?_))))
      refine⟨.inr rfl,_,.cons _ _ _ _ (.tmp 2) .nil,?_⟩
      exact .refl _
end
end Go.Proofs.YthhbfbmfhldbaaaDoor.locks
