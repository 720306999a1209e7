import Derived.Test.YtlknfhjfkcboiaaDoorVamT7
set_option linter.unusedVariables false
set_option linter.unusedSimpArgs false
set_option linter.constructorNameAsVariable false
namespace Go.Proofs.YtlknfhjfkcboiaaDoor.night
open Vam
variable {is:FuncId→Bool}{orc:Known}
noncomputable def b66:Code:=(Tryd.f66.body).getD .skip
theorem body66:bodyOf Tryd.prog 66=some (27,b66,[.tmp 4]):=by kernel_rfl
theorem pure66:pureFn Tryd.prog 66=true:=by kernel_rfl
theorem ret84(hi:Off is){b:Bk}(h:BOk b){i:Nat}{q:Sc}(hq:b.scenes[i]? =some q)(x:Int):RetP Tryd.prog is orc 84 [b.u,.int .i64 i,.int .i64 x] (.bool (inS q.lo q.hi x)):=by
 refine zw body84 pure84 (hi 84 (by decide)) rfl rfl (zDU (wV b 4) (.int _ _ _) (.int _ _ _)) (.inl (.bool _ _)) ?_
 have q80:=ret80 (orc:=orc) hi q.lo q.hi x
 have hil:=(List.getElem?_eq_some_iff.1 hq).1
 refine kQ (yF rfl rfl (zB rfl (zC ?_)))
 refine zH [(1,.int .i64 ↑i),(2,.int .i64 x),(3,U.box 0 0)] ([SB.box (Bk.cs b)]) (.cons rfl (.cons rfl (.cons rfl (.nil rfl)))) rfl fun fr=>?_
 refine kQ (zE rfl rfl yh (zE rfl rfl zo (zG rfl rfl rfl sh23 rfl (zA rfl (zh (u:=(q).u) rfl ty23 rfl rfl (Int.natCast_nonneg _) (by simp[hq]) cl50 ?_)))))
 refine wB rfl rfl we ?_
 refine yl rfl rfl sh48 rfl ?_
 refine zA rfl (zM rfl (q80) (.lrefl _) (zB rfl (zC (zX ?_))))
 refine⟨.inr rfl,_,.cons _ _ _ _ (.tmp 6) .nil,?_⟩
 exact .refl _
def dnB(b:Bk)(i:Nat)(x:Int):Bool:=(decide (x= -1)&& !zDP b i)||(match b.scenes[i]? with|none=>false|some q=>inS q.lo q.hi x)
def dnF(b:Bk):Nat→List Int→Bool
 |_,[]=>true
 |i,x::l=>dnB b i x&&dnF b (i+1) l
def zBv(b:Bk)(d:List Int):Bool:=decide (d.length≤b.scenes.length)&&dnF b 0 d
set_option maxHeartbeats 8000000 in
theorem ret62(hi:Off is){b:Bk}(h:BOk b)(d:List Int):RetP Tryd.prog is orc 62 [b.u,.lst .ro 1 (zF d)] (.bool (zBv b d)):=by
 refine zw body62 pure62 (hi 62 (by decide)) rfl rfl (yE (wV b 4) (zY 6 .ro (fun h=>by cases h) 1 d)) (.inl (.bool _ _)) ?_
 have hn:=h.sn
 unfold zBv
 by_cases hl:d.length≤b.scenes.length
 ·rw[decide_eq_true hl,Bool.true_and]
  generalize hz:dnF b 0 d=z
  refine kQ (yF rfl rfl (zB rfl (zC ?_)))
  refine zH [(1,.lst .ro 1 (zF d)),(2,U.box 0 0)] ([SB.box (Bk.cs b)]) (.cons rfl (.cons rfl (.nil rfl))) rfl fun fr=>?_
  refine k_seq (kQ (zA rfl (zd rfl ty22 rfl (List.length_map _) ?_)))
  refine zE rfl rfl yh (zE rfl rfl zo (zG rfl rfl rfl sh23 rfl (zd rfl ty23 rfl (List.length_map _) ?_)))
  refine zDs rfl rfl rfl (zC (k_cF rfl (decide_eq_false (by omega)) (zL (k_seq (kQ (zA rfl (zd rfl ty22 rfl (List.length_map _) ?_)))))))
  refine zA rfl (zC (zK ?_))
  refine yZ (fun kk s2=>∃i:Nat,kk+i=d.length∧z=dnF b i (d.drop i)∧s2.st=[.box (Bk.cs b)]∧Holds s2 [(2,.box 0 0),(15,.lst .ro 1 (zF d)),(16,.int .i64 d.length),(17,.int .i64 i)]) (fun kk s2 hI=>?_) d.length _ ⟨0,rfl,hz.symm,rfl,.c4 rfl rfl rfl rfl (.nil rfl)⟩
  obtain⟨i,hk,hw,hst2,hs2⟩:=hI
  clear hz
  refine zH _ _ hs2 hst2 fun fr2=>?_
  by_cases hin:i<d.length
  ·obtain⟨x,hx⟩:∃x,d[i]? =some x:=⟨d[i],List.getElem?_eq_getElem hin⟩
   rw[zBJ hx]at hw
   have hw:z=(dnB b i x&&dnF b (i+1) (d.drop (i+1))):=hw
   obtain⟨q,hq⟩:∃q,b.scenes[i]? =some q:=⟨b.scenes[i],List.getElem?_eq_getElem (by omega)⟩
   have hm:zDP b i=q.must:=by unfold zDP;rw[hq];rfl
   have hdn:dnB b i x=((decide (x= -1)&& !q.must)||inS q.lo q.hi x):=by unfold dnB;rw[hq,hm]
   rw[hdn]at hw
   have q84:=ret84 (orc:=orc) hi h hq x
   by_cases h1:x= -1
   ·cases hqm:q.must with
    |false=>
     have k20:(!q.must)=true:=by rw[hqm];rfl
     have k21:(!!q.must)=false:=by rw[hqm];rfl
     rw[decide_eq_true h1,hqm]at hw
     have hw:z=dnF b (i+1) (d.drop (i+1)):=hw
     refine kQ (zW rfl rfl rfl (zC (k_seq (k_cT rfl (decide_eq_true (by omega)) (zL (k_seq (zK (kQ ?_))))))))
     refine zA rfl (zh (u:=.int .i64 (x)) rfl ty22 rfl rfl (Int.natCast_nonneg _) (by simp[hx]) cl3 ?_)
     refine zR rfl rfl sh3 rfl ?_
     refine zB rfl (zB rfl (zC (kQ (zA rfl (zAS rfl rfl rfl (zA rfl (o_gD rfl rfl rfl rfl (decide_eq_true (by omega)) ?_)))))))
     refine zE rfl rfl yh (o_gD rfl rfl rfl rfl (decide_eq_true (by omega)) ?_)
     refine zE rfl rfl zo (o_gD rfl rfl rfl rfl (decide_eq_true (by omega)) ?_)
     refine zG rfl rfl rfl sh23 rfl (o_gD rfl rfl rfl rfl (decide_eq_true (by omega)) ?_)
     refine zA rfl (o_gD rfl rfl rfl rfl (decide_eq_true (by omega)) ?_)
     refine zh (u:=(q).u) rfl ty23 rfl rfl (Int.natCast_nonneg _) (by simp[hq]) cl50 ?_
     refine o_gD rfl rfl rfl rfl (decide_eq_true (by omega)) ?_
     refine wB rfl rfl zDh ?_
     refine zP [(2,U.box 0 0),(5,.int .i64 ↑i),(6,.int .i64 x),(15,.lst .ro 1 (zF d)),(16,.int .i64 ↑(List.length d)),(17,.int .i64 ↑i),(24,U.bool (decide (x=(-1:Int)))),(25,U.box 0 0),(26,U.box 0 3),(27,.lst .ro 5 (scsU (Bk.scenes b))),(28,.int .i64 ↑i),(29,U.eref [.int .i64 (Sc.part q),.int .i64 (Sc.wt q),.int .i64 (Sc.lo q),.int .i64 (Sc.hi q),U.bool (Sc.must q)] 0),(30,U.eref [.int .i64 (Sc.part q),.int .i64 (Sc.wt q),.int .i64 (Sc.lo q),.int .i64 (Sc.hi q),U.bool (Sc.must q)] 4)] [] ([SB.box (Bk.cs b)]) (.c4 rfl rfl rfl rfl (.c4 rfl rfl rfl rfl (.c4 rfl rfl rfl rfl (.cons rfl (.nil rfl))))) rfl rfl fun fr=>?_
     refine o_gD rfl rfl rfl rfl (decide_eq_true (by omega)) ?_
     refine zP [(2,U.box 0 0),(5,.int .i64 ↑i),(6,.int .i64 x),(15,.lst .ro 1 (zF d)),(16,.int .i64 ↑(List.length d)),(17,.int .i64 ↑i),(24,U.bool (decide (x=(-1:Int)))),(25,U.box 0 0),(26,U.box 0 3),(27,.lst .ro 5 (scsU (Bk.scenes b))),(28,.int .i64 ↑i),(29,U.eref [.int .i64 (Sc.part q),.int .i64 (Sc.wt q),.int .i64 (Sc.lo q),.int .i64 (Sc.hi q),U.bool (Sc.must q)] 0),(30,U.eref [.int .i64 (Sc.part q),.int .i64 (Sc.wt q),.int .i64 (Sc.lo q),.int .i64 (Sc.hi q),U.bool (Sc.must q)] 4)] [] ([SB.box (Bk.cs b)]) (.c4 rfl rfl rfl rfl (.c4 rfl rfl rfl rfl (.c4 rfl rfl rfl rfl (.cons rfl (.nil rfl))))) rfl rfl fun fr=>?_
     refine zR rfl rfl sh4 rfl ?_
     refine o_gD rfl rfl rfl rfl (decide_eq_true (by omega)) ?_
     refine yC rfl rfl (zV rfl rfl (decide_eq_true (by omega)) ?_)
     refine zB rfl (zC ?_)
     refine zH [(2,U.box 0 0),(5,.int .i64 ↑i),(6,.int .i64 x),(7,U.bool !Sc.must q),(15,.lst .ro 1 (zF d)),(16,.int .i64 ↑(List.length d)),(17,.int .i64 ↑i),(25,U.box 0 0),(26,U.box 0 3),(27,.lst .ro 5 (scsU (Bk.scenes b))),(28,.int .i64 ↑i),(29,U.eref [.int .i64 (Sc.part q),.int .i64 (Sc.wt q),.int .i64 (Sc.lo q),.int .i64 (Sc.hi q),U.bool (Sc.must q)] 0),(30,U.eref [.int .i64 (Sc.part q),.int .i64 (Sc.wt q),.int .i64 (Sc.lo q),.int .i64 (Sc.hi q),U.bool (Sc.must q)] 4),(31,U.bool (Sc.must q)),(32,U.bool !Sc.must q)] ([SB.box (Bk.cs b)]) (.c4 rfl rfl rfl rfl (.c4 rfl rfl rfl rfl (.c4 rfl rfl rfl rfl (.cons rfl (.cons rfl (.cons rfl (.nil rfl))))))) rfl fun fr=>?_
     refine kQ (zA rfl (yC rfl rfl (zA rfl (o_gS rfl rfl rfl rfl (by assumption) (o_gS rfl rfl rfl rfl (by assumption) (o_gS rfl rfl rfl rfl (by assumption) (o_gS rfl rfl rfl rfl (by assumption) (o_gS rfl rfl rfl rfl (by assumption) ?_))))))))
     refine zO rfl rfl (by assumption) ?_
     refine zC (k_cF rfl rfl ?_)
     refine zL (k_region ?_)
     refine yH rfl rfl rfl (by unfold I64;omega) (zA rfl (zC ?_))
     exact⟨kk - 1,by omega,i+1,by omega,hw,rfl,.c4 rfl rfl rfl rfl (.nil rfl)⟩
    |true=>
     have k20:(!q.must)=false:=by rw[hqm];rfl
     have k21:(!!q.must)=true:=by rw[hqm];rfl
     rw[decide_eq_true h1,hqm]at hw
     have hw:z=(inS q.lo q.hi x&&dnF b (i+1) (d.drop (i+1))):=hw
     cases hs:inS q.lo q.hi x with
     |true=>
      rw[hs]at hw q84
      have hw:z=dnF b (i+1) (d.drop (i+1)):=hw
      refine kQ (zW rfl rfl rfl (zC (k_seq (k_cT rfl (decide_eq_true (by omega)) (zL (k_seq (zK (kQ ?_))))))))
      refine zA rfl (zh (u:=.int .i64 (x)) rfl ty22 rfl rfl (Int.natCast_nonneg _) (by simp[hx]) cl3 ?_)
      refine zR rfl rfl sh3 rfl ?_
      refine zB rfl (zB rfl (zC (kQ (zA rfl (zAS rfl rfl rfl (zA rfl (o_gD rfl rfl rfl rfl (decide_eq_true (by omega)) ?_)))))))
      refine zE rfl rfl yh (o_gD rfl rfl rfl rfl (decide_eq_true (by omega)) ?_)
      refine zE rfl rfl zo (o_gD rfl rfl rfl rfl (decide_eq_true (by omega)) ?_)
      refine zG rfl rfl rfl sh23 rfl (o_gD rfl rfl rfl rfl (decide_eq_true (by omega)) ?_)
      refine zA rfl (o_gD rfl rfl rfl rfl (decide_eq_true (by omega)) ?_)
      refine zh (u:=(q).u) rfl ty23 rfl rfl (Int.natCast_nonneg _) (by simp[hq]) cl50 ?_
      refine o_gD rfl rfl rfl rfl (decide_eq_true (by omega)) ?_
      refine wB rfl rfl zDh ?_
      refine zP [(2,U.box 0 0),(5,.int .i64 ↑i),(6,.int .i64 x),(15,.lst .ro 1 (zF d)),(16,.int .i64 ↑(List.length d)),(17,.int .i64 ↑i),(24,U.bool (decide (x=(-1:Int)))),(25,U.box 0 0),(26,U.box 0 3),(27,.lst .ro 5 (scsU (Bk.scenes b))),(28,.int .i64 ↑i),(29,U.eref [.int .i64 (Sc.part q),.int .i64 (Sc.wt q),.int .i64 (Sc.lo q),.int .i64 (Sc.hi q),U.bool (Sc.must q)] 0),(30,U.eref [.int .i64 (Sc.part q),.int .i64 (Sc.wt q),.int .i64 (Sc.lo q),.int .i64 (Sc.hi q),U.bool (Sc.must q)] 4)] [] ([SB.box (Bk.cs b)]) (.c4 rfl rfl rfl rfl (.c4 rfl rfl rfl rfl (.c4 rfl rfl rfl rfl (.cons rfl (.nil rfl))))) rfl rfl fun fr=>?_
      refine o_gD rfl rfl rfl rfl (decide_eq_true (by omega)) ?_
      refine zP [(2,U.box 0 0),(5,.int .i64 ↑i),(6,.int .i64 x),(15,.lst .ro 1 (zF d)),(16,.int .i64 ↑(List.length d)),(17,.int .i64 ↑i),(24,U.bool (decide (x=(-1:Int)))),(25,U.box 0 0),(26,U.box 0 3),(27,.lst .ro 5 (scsU (Bk.scenes b))),(28,.int .i64 ↑i),(29,U.eref [.int .i64 (Sc.part q),.int .i64 (Sc.wt q),.int .i64 (Sc.lo q),.int .i64 (Sc.hi q),U.bool (Sc.must q)] 0),(30,U.eref [.int .i64 (Sc.part q),.int .i64 (Sc.wt q),.int .i64 (Sc.lo q),.int .i64 (Sc.hi q),U.bool (Sc.must q)] 4)] [] ([SB.box (Bk.cs b)]) (.c4 rfl rfl rfl rfl (.c4 rfl rfl rfl rfl (.c4 rfl rfl rfl rfl (.cons rfl (.nil rfl))))) rfl rfl fun fr=>?_
      refine zR rfl rfl sh4 rfl ?_
      refine o_gD rfl rfl rfl rfl (decide_eq_true (by omega)) ?_
      refine yC rfl rfl (zV rfl rfl (decide_eq_true (by omega)) ?_)
      refine zB rfl (zC ?_)
      refine zH [(2,U.box 0 0),(5,.int .i64 ↑i),(6,.int .i64 x),(7,U.bool !Sc.must q),(15,.lst .ro 1 (zF d)),(16,.int .i64 ↑(List.length d)),(17,.int .i64 ↑i),(25,U.box 0 0),(26,U.box 0 3),(27,.lst .ro 5 (scsU (Bk.scenes b))),(28,.int .i64 ↑i),(29,U.eref [.int .i64 (Sc.part q),.int .i64 (Sc.wt q),.int .i64 (Sc.lo q),.int .i64 (Sc.hi q),U.bool (Sc.must q)] 0),(30,U.eref [.int .i64 (Sc.part q),.int .i64 (Sc.wt q),.int .i64 (Sc.lo q),.int .i64 (Sc.hi q),U.bool (Sc.must q)] 4),(31,U.bool (Sc.must q)),(32,U.bool !Sc.must q)] ([SB.box (Bk.cs b)]) (.c4 rfl rfl rfl rfl (.c4 rfl rfl rfl rfl (.c4 rfl rfl rfl rfl (.cons rfl (.cons rfl (.cons rfl (.nil rfl))))))) rfl fun fr=>?_
      refine kQ (zA rfl (yC rfl rfl (zA rfl (o_gD rfl rfl rfl rfl (by assumption) (zS rfl rfl rfl sh70 rfl (o_gD rfl rfl rfl rfl (by assumption) (zA rfl (o_gD rfl rfl rfl rfl (by assumption) ?_))))))))
      refine zA rfl (o_gD rfl rfl rfl rfl (by assumption) (zM rfl (q84) (.lrefl _) (o_gD rfl rfl rfl rfl (by assumption) (yC rfl rfl (zV rfl rfl (by assumption) ?_)))))
      refine zC (k_cF rfl rfl ?_)
      refine zL (k_region ?_)
      refine yH rfl rfl rfl (by unfold I64;omega) (zA rfl (zC ?_))
      exact⟨kk - 1,by omega,i+1,by omega,hw,rfl,.c4 rfl rfl rfl rfl (.nil rfl)⟩
     |false=>
      rw[hs]at hw q84
      obtain rfl:z=false:=hw
      refine kQ (zW rfl rfl rfl (zC (k_seq (k_cT rfl (decide_eq_true (by omega)) (zL (k_seq (zK (kQ ?_))))))))
      refine zA rfl (zh (u:=.int .i64 (x)) rfl ty22 rfl rfl (Int.natCast_nonneg _) (by simp[hx]) cl3 ?_)
      refine zR rfl rfl sh3 rfl ?_
      refine zB rfl (zB rfl (zC (kQ (zA rfl (zAS rfl rfl rfl (zA rfl (o_gD rfl rfl rfl rfl (decide_eq_true (by omega)) ?_)))))))
      refine zE rfl rfl yh (o_gD rfl rfl rfl rfl (decide_eq_true (by omega)) ?_)
      refine zE rfl rfl zo (o_gD rfl rfl rfl rfl (decide_eq_true (by omega)) ?_)
      refine zG rfl rfl rfl sh23 rfl (o_gD rfl rfl rfl rfl (decide_eq_true (by omega)) ?_)
      refine zA rfl (o_gD rfl rfl rfl rfl (decide_eq_true (by omega)) ?_)
      refine zh (u:=(q).u) rfl ty23 rfl rfl (Int.natCast_nonneg _) (by simp[hq]) cl50 ?_
      refine o_gD rfl rfl rfl rfl (decide_eq_true (by omega)) ?_
      refine wB rfl rfl zDh ?_
      refine zP [(2,U.box 0 0),(5,.int .i64 ↑i),(6,.int .i64 x),(15,.lst .ro 1 (zF d)),(16,.int .i64 ↑(List.length d)),(17,.int .i64 ↑i),(24,U.bool (decide (x=(-1:Int)))),(25,U.box 0 0),(26,U.box 0 3),(27,.lst .ro 5 (scsU (Bk.scenes b))),(28,.int .i64 ↑i),(29,U.eref [.int .i64 (Sc.part q),.int .i64 (Sc.wt q),.int .i64 (Sc.lo q),.int .i64 (Sc.hi q),U.bool (Sc.must q)] 0),(30,U.eref [.int .i64 (Sc.part q),.int .i64 (Sc.wt q),.int .i64 (Sc.lo q),.int .i64 (Sc.hi q),U.bool (Sc.must q)] 4)] [] ([SB.box (Bk.cs b)]) (.c4 rfl rfl rfl rfl (.c4 rfl rfl rfl rfl (.c4 rfl rfl rfl rfl (.cons rfl (.nil rfl))))) rfl rfl fun fr=>?_
      refine o_gD rfl rfl rfl rfl (decide_eq_true (by omega)) ?_
      refine zP [(2,U.box 0 0),(5,.int .i64 ↑i),(6,.int .i64 x),(15,.lst .ro 1 (zF d)),(16,.int .i64 ↑(List.length d)),(17,.int .i64 ↑i),(24,U.bool (decide (x=(-1:Int)))),(25,U.box 0 0),(26,U.box 0 3),(27,.lst .ro 5 (scsU (Bk.scenes b))),(28,.int .i64 ↑i),(29,U.eref [.int .i64 (Sc.part q),.int .i64 (Sc.wt q),.int .i64 (Sc.lo q),.int .i64 (Sc.hi q),U.bool (Sc.must q)] 0),(30,U.eref [.int .i64 (Sc.part q),.int .i64 (Sc.wt q),.int .i64 (Sc.lo q),.int .i64 (Sc.hi q),U.bool (Sc.must q)] 4)] [] ([SB.box (Bk.cs b)]) (.c4 rfl rfl rfl rfl (.c4 rfl rfl rfl rfl (.c4 rfl rfl rfl rfl (.cons rfl (.nil rfl))))) rfl rfl fun fr=>?_
      refine zR rfl rfl sh4 rfl ?_
      refine o_gD rfl rfl rfl rfl (decide_eq_true (by omega)) ?_
      refine yC rfl rfl (zV rfl rfl (decide_eq_true (by omega)) ?_)
      refine zB rfl (zC ?_)
      refine zH [(2,U.box 0 0),(5,.int .i64 ↑i),(6,.int .i64 x),(7,U.bool !Sc.must q),(15,.lst .ro 1 (zF d)),(16,.int .i64 ↑(List.length d)),(17,.int .i64 ↑i),(25,U.box 0 0),(26,U.box 0 3),(27,.lst .ro 5 (scsU (Bk.scenes b))),(28,.int .i64 ↑i),(29,U.eref [.int .i64 (Sc.part q),.int .i64 (Sc.wt q),.int .i64 (Sc.lo q),.int .i64 (Sc.hi q),U.bool (Sc.must q)] 0),(30,U.eref [.int .i64 (Sc.part q),.int .i64 (Sc.wt q),.int .i64 (Sc.lo q),.int .i64 (Sc.hi q),U.bool (Sc.must q)] 4),(31,U.bool (Sc.must q)),(32,U.bool !Sc.must q)] ([SB.box (Bk.cs b)]) (.c4 rfl rfl rfl rfl (.c4 rfl rfl rfl rfl (.c4 rfl rfl rfl rfl (.cons rfl (.cons rfl (.cons rfl (.nil rfl))))))) rfl fun fr=>?_
      refine kQ (zA rfl (yC rfl rfl (zA rfl (o_gD rfl rfl rfl rfl (by assumption) (zS rfl rfl rfl sh70 rfl (o_gD rfl rfl rfl rfl (by assumption) (zA rfl (o_gD rfl rfl rfl rfl (by assumption) ?_))))))))
      refine zA rfl (o_gD rfl rfl rfl rfl (by assumption) (zM rfl (q84) (.lrefl _) (o_gD rfl rfl rfl rfl (by assumption) (yC rfl rfl (zV rfl rfl (by assumption) ?_)))))
      refine zC (k_cT rfl rfl ?_)
      refine kQ (zB rfl (zC (zX ?_)))
      refine⟨.inr rfl,_,.cons _ _ _ _ (.tmp 4) .nil,?_⟩
      exact .refl _
   ·rw[decide_eq_false h1,Bool.false_and,Bool.false_or]at hw
    cases hs:inS q.lo q.hi x with
    |true=>
     rw[hs]at hw q84
     have hw:z=dnF b (i+1) (d.drop (i+1)):=hw
     refine kQ (zW rfl rfl rfl (zC (k_seq (k_cT rfl (decide_eq_true (by omega)) (zL (k_seq (zK (kQ ?_))))))))
     refine zA rfl (zh (u:=.int .i64 (x)) rfl ty22 rfl rfl (Int.natCast_nonneg _) (by simp[hx]) cl3 ?_)
     refine zR rfl rfl sh3 rfl ?_
     refine zB rfl (zB rfl (zC (kQ (zA rfl (zAS rfl rfl rfl (zA rfl (o_gS rfl rfl rfl rfl (decide_eq_false (by omega)) ?_)))))))
     refine o_gS rfl rfl rfl rfl (decide_eq_false (by omega)) ?_
     refine o_gS rfl rfl rfl rfl (decide_eq_false (by omega)) ?_
     refine o_gS rfl rfl rfl rfl (decide_eq_false (by omega)) ?_
     refine o_gS rfl rfl rfl rfl (decide_eq_false (by omega)) ?_
     refine o_gS rfl rfl rfl rfl (decide_eq_false (by omega)) ?_
     refine zP [(2,U.box 0 0),(5,.int .i64 ↑i),(6,.int .i64 x),(15,.lst .ro 1 (zF d)),(16,.int .i64 ↑(List.length d)),(17,.int .i64 ↑i),(24,U.bool (decide (x=(-1:Int)))),(25,U.tup []),(26,U.tup []),(27,U.tup []),(28,U.tup []),(29,U.tup []),(30,U.tup [])] [] ([SB.box (Bk.cs b)]) (.c4 rfl rfl rfl rfl (.c4 rfl rfl rfl rfl (.c4 rfl rfl rfl rfl (.cons rfl (.nil rfl))))) rfl rfl fun fr=>?_
     refine o_gS rfl rfl rfl rfl (decide_eq_false (by omega)) ?_
     refine o_gS rfl rfl rfl rfl (decide_eq_false (by omega)) ?_
     refine zO rfl rfl (decide_eq_false (by omega)) ?_
     refine zB rfl (zC ?_)
     refine zH [(2,U.box 0 0),(5,.int .i64 ↑i),(6,.int .i64 x),(7,.bool false),(15,.lst .ro 1 (zF d)),(16,.int .i64 ↑(List.length d)),(17,.int .i64 ↑i),(25,U.tup []),(26,U.tup []),(27,U.tup []),(28,U.tup []),(29,U.tup []),(30,U.tup []),(31,U.tup []),(32,U.tup [])] ([SB.box (Bk.cs b)]) (.c4 rfl rfl rfl rfl (.c4 rfl rfl rfl rfl (.c4 rfl rfl rfl rfl (.cons rfl (.cons rfl (.cons rfl (.nil rfl))))))) rfl fun fr=>?_
     refine kQ (zA rfl (yC rfl rfl (zA rfl (o_gD rfl rfl rfl rfl rfl (zS rfl rfl rfl sh70 rfl (o_gD rfl rfl rfl rfl rfl (zA rfl (o_gD rfl rfl rfl rfl rfl ?_))))))))
     refine zA rfl (o_gD rfl rfl rfl rfl rfl (zM rfl (q84) (.lrefl _) (o_gD rfl rfl rfl rfl rfl (yC rfl rfl (zV rfl rfl rfl ?_)))))
     refine zC (k_cF rfl rfl ?_)
     refine zL (k_region ?_)
     refine yH rfl rfl rfl (by unfold I64;omega) (zA rfl (zC ?_))
     exact⟨kk - 1,by omega,i+1,by omega,hw,rfl,.c4 rfl rfl rfl rfl (.nil rfl)⟩
    |false=>
     rw[hs]at hw q84
     obtain rfl:z=false:=hw
     refine kQ (zW rfl rfl rfl (zC (k_seq (k_cT rfl (decide_eq_true (by omega)) (zL (k_seq (zK (kQ ?_))))))))
     refine zA rfl (zh (u:=.int .i64 (x)) rfl ty22 rfl rfl (Int.natCast_nonneg _) (by simp[hx]) cl3 ?_)
     refine zR rfl rfl sh3 rfl ?_
     refine zB rfl (zB rfl (zC (kQ (zA rfl (zAS rfl rfl rfl (zA rfl (o_gS rfl rfl rfl rfl (decide_eq_false (by omega)) ?_)))))))
     refine o_gS rfl rfl rfl rfl (decide_eq_false (by omega)) ?_
     refine o_gS rfl rfl rfl rfl (decide_eq_false (by omega)) ?_
     refine o_gS rfl rfl rfl rfl (decide_eq_false (by omega)) ?_
     refine o_gS rfl rfl rfl rfl (decide_eq_false (by omega)) ?_
     refine o_gS rfl rfl rfl rfl (decide_eq_false (by omega)) ?_
     refine zP [(2,U.box 0 0),(5,.int .i64 ↑i),(6,.int .i64 x),(15,.lst .ro 1 (zF d)),(16,.int .i64 ↑(List.length d)),(17,.int .i64 ↑i),(24,U.bool (decide (x=(-1:Int)))),(25,U.tup []),(26,U.tup []),(27,U.tup []),(28,U.tup []),(29,U.tup []),(30,U.tup [])] [] ([SB.box (Bk.cs b)]) (.c4 rfl rfl rfl rfl (.c4 rfl rfl rfl rfl (.c4 rfl rfl rfl rfl (.cons rfl (.nil rfl))))) rfl rfl fun fr=>?_
     refine o_gS rfl rfl rfl rfl (decide_eq_false (by omega)) ?_
     refine o_gS rfl rfl rfl rfl (decide_eq_false (by omega)) ?_
     refine zO rfl rfl (decide_eq_false (by omega)) ?_
     refine zB rfl (zC ?_)
     refine zH [(2,U.box 0 0),(5,.int .i64 ↑i),(6,.int .i64 x),(7,.bool false),(15,.lst .ro 1 (zF d)),(16,.int .i64 ↑(List.length d)),(17,.int .i64 ↑i),(25,U.tup []),(26,U.tup []),(27,U.tup []),(28,U.tup []),(29,U.tup []),(30,U.tup []),(31,U.tup []),(32,U.tup [])] ([SB.box (Bk.cs b)]) (.c4 rfl rfl rfl rfl (.c4 rfl rfl rfl rfl (.c4 rfl rfl rfl rfl (.cons rfl (.cons rfl (.cons rfl (.nil rfl))))))) rfl fun fr=>?_
     refine kQ (zA rfl (yC rfl rfl (zA rfl (o_gD rfl rfl rfl rfl rfl (zS rfl rfl rfl sh70 rfl (o_gD rfl rfl rfl rfl rfl (zA rfl (o_gD rfl rfl rfl rfl rfl ?_))))))))
     refine zA rfl (o_gD rfl rfl rfl rfl rfl (zM rfl (q84) (.lrefl _) (o_gD rfl rfl rfl rfl rfl (yC rfl rfl (zV rfl rfl rfl ?_)))))
     refine zC (k_cT rfl rfl ?_)
     refine kQ (zB rfl (zC (zX ?_)))
     refine⟨.inr rfl,_,.cons _ _ _ _ (.tmp 4) .nil,?_⟩
     exact .refl _
  ·have hd:d.drop i=[]:=List.drop_eq_nil_of_le (by omega)
   rw[hd]at hw
   obtain rfl:z=true:=hw
   refine kQ (zW rfl rfl rfl (zC (k_seq (k_cF rfl (decide_eq_false (by omega)) (yO (kQ (zB rfl (zC ?_))))))))
   refine zX ?_
   refine⟨.inr rfl,_,.cons _ _ _ _ (.tmp 4) .nil,?_⟩
   exact .refl _
 ·rw[decide_eq_false hl,Bool.false_and]
  refine kQ (yF rfl rfl (zB rfl (zC ?_)))
  refine zH [(1,.lst .ro 1 (zF d)),(2,U.box 0 0)] ([SB.box (Bk.cs b)]) (.cons rfl (.cons rfl (.nil rfl))) rfl fun fr=>?_
  refine k_seq (kQ (zA rfl (zd rfl ty22 rfl (List.length_map _) ?_)))
  refine zE rfl rfl yh (zE rfl rfl zo (zG rfl rfl rfl sh23 rfl (zd rfl ty23 rfl (List.length_map _) ?_)))
  refine zDs rfl rfl rfl (zC (k_cT rfl (decide_eq_true (by omega)) (kQ (zB rfl (zC (zX ?_))))))
  refine⟨.inr rfl,_,.cons _ _ _ _ (.tmp 4) .nil,?_⟩
  exact .refl _
def chF(b:Bk):Int→List Int→Bool
 |_,[]=>true
 |q,x::l=>decide (q<x)&&(decide (x<b.scenes.length)&&(!zDP b x.toNat&&chF b x l))
set_option maxHeartbeats 8000000 in
theorem ret78(hi:Off is){b:Bk}(h:BOk b)(L:List Int):RetP Tryd.prog is orc 78 [b.u,.lst .ro 1 (zF L)] (.bool (chF b (-1) L)):=by
 refine zw body78 pure78 (hi 78 (by decide)) rfl rfl (yE (wV b 4) (zY 6 .ro (fun h=>by cases h) 1 L)) (.inl (.bool _ _)) ?_
 have hn:=h.sn
 generalize hz:chF b (-1) L=z
 refine kQ (yF rfl rfl (zB rfl (zC ?_)))
 refine zH [(1,.lst .ro 1 (zF L)),(2,U.box 0 0)] ([SB.box (Bk.cs b)]) (.cons rfl (.cons rfl (.nil rfl))) rfl fun fr=>?_
 refine kQ (zB rfl (zC (k_seq (kQ (zA rfl (zd rfl ty83 rfl (List.length_map _) ?_))))))
 refine zA rfl (zC (zK ?_))
 refine yZ (fun kk s2=>∃i:Nat,kk+i=L.length∧z=chF b (lstI L i) (L.drop i)∧(i:Int)≤lstI L i+1∧lstI L i<10∧s2.st=[.box (Bk.cs b)]∧Holds s2 [(2,.box 0 0),(5,.int .i64 (lstI L i)),(8,.lst .ro 1 (zF L)),(9,.int .i64 L.length),(10,.int .i64 i)]) (fun kk s2 hI=>?_) L.length _ ⟨0,rfl,hz.symm,(by show(0:Int)≤ -1+1;omega),(by show(-1:Int)<10;omega),rfl,.c4 rfl rfl rfl rfl (.cons rfl (.nil rfl))⟩
 obtain⟨i,hk,hw,hb1,hb2,hst2,hs2⟩:=hI
 clear hz
 have hln:∀x,L[i]? =some x→lstI L (i+1)=x:=fun x hx=>by show(L[i]?).getD 0=x;rw[hx];rfl
 generalize lstI L i=p at*
 refine zH _ _ hs2 hst2 fun fr2=>?_
 by_cases hin:i<L.length
 ·obtain⟨x,hx⟩:∃x,L[i]? =some x:=⟨L[i],List.getElem?_eq_getElem hin⟩
  have hl2:=hln x hx
  rw[zBJ hx]at hw
  have hw:z=(decide (p<x)&&(decide (x<b.scenes.length)&&(!zDP b x.toNat&&chF b x (L.drop (i+1))))):=hw
  by_cases c1:p<x
  ·rw[decide_eq_true c1,Bool.true_and]at hw
   by_cases c2:x<b.scenes.length
   ·rw[decide_eq_true c2,Bool.true_and]at hw
    obtain⟨q,hq⟩:∃q,b.scenes[x.toNat]? =some q:=⟨b.scenes[x.toNat],List.getElem?_eq_getElem (by omega)⟩
    have hm:zDP b x.toNat=q.must:=by unfold zDP;rw[hq];rfl
    rw[hm]at hw
    cases hqm:q.must with
    |true=>
     rw[hqm]at hw
     obtain rfl:z=false:=hw
     refine kQ (zW rfl rfl rfl (zC (k_seq (k_cT rfl (decide_eq_true (by omega)) (zL (k_seq (zK (kQ ?_))))))))
     refine zh (u:=.int .i64 (x)) rfl ty83 rfl rfl (Int.natCast_nonneg _) (by simp[hx]) cl3 ?_
     refine zR rfl rfl sh3 rfl ?_
     refine zB rfl (zC (k_seq (kQ (zA rfl (zA rfl (zBq rfl rfl rfl (zA rfl (o_gD rfl rfl rfl rfl (decide_eq_false (by omega)) ?_))))))))
     refine zA rfl (o_gD rfl rfl rfl rfl (decide_eq_false (by omega)) (zE rfl rfl yh (o_gD rfl rfl rfl rfl (decide_eq_false (by omega)) (zE rfl rfl zo (o_gD rfl rfl rfl rfl (decide_eq_false (by omega)) (zG rfl rfl rfl sh23 rfl (o_gD rfl rfl rfl rfl (decide_eq_false (by omega)) (zd rfl ty23 rfl (List.length_map _) ?_))))))))
     refine zP [(2,U.box 0 0),(7,.int .i64 x),(8,.lst .ro 1 (zF L)),(9,.int .i64 ↑(List.length L)),(10,.int .i64 ↑i),(17,U.bool (decide (x≤p))),(18,.int .i64 x),(19,U.box 0 0),(20,U.box 0 3),(21,.lst .ro 5 (scsU (Bk.scenes b))),(22,.int .i64 ↑(List.length (Bk.scenes b)))] [] ([SB.box (Bk.cs b)]) (.c4 rfl rfl rfl rfl (.c4 rfl rfl rfl rfl (.cons rfl (.cons rfl (.cons rfl (.nil rfl)))))) rfl rfl fun fr=>?_
     refine o_gD rfl rfl rfl rfl (decide_eq_false (by omega)) ?_
     refine zP [(2,U.box 0 0),(7,.int .i64 x),(8,.lst .ro 1 (zF L)),(9,.int .i64 ↑(List.length L)),(10,.int .i64 ↑i),(17,U.bool (decide (x≤p))),(18,.int .i64 x),(19,U.box 0 0),(20,U.box 0 3),(21,.lst .ro 5 (scsU (Bk.scenes b))),(22,.int .i64 ↑(List.length (Bk.scenes b)))] [] ([SB.box (Bk.cs b)]) (.c4 rfl rfl rfl rfl (.c4 rfl rfl rfl rfl (.cons rfl (.cons rfl (.cons rfl (.nil rfl)))))) rfl rfl fun fr=>?_
     refine o_geq rfl rfl rfl (zO rfl rfl (decide_eq_false (by omega)) ?_)
     refine zA rfl (o_gD rfl rfl rfl rfl (decide_eq_false (by omega)) (zE rfl rfl yh (o_gD rfl rfl rfl rfl (decide_eq_false (by omega)) (zE rfl rfl zo (o_gD rfl rfl rfl rfl (decide_eq_false (by omega)) (zG rfl rfl rfl sh23 rfl (o_gD rfl rfl rfl rfl (decide_eq_false (by omega)) (zA rfl ?_))))))))
     refine o_gD rfl rfl rfl rfl (decide_eq_false (by omega)) (zh (u:=(q).u) rfl ty23 rfl rfl (by omega) (by simp[hq]) cl50 ?_)
     refine o_gD rfl rfl rfl rfl (decide_eq_false (by omega)) (wB rfl rfl zDh ?_)
     refine zP [(2,U.box 0 0),(7,.int .i64 x),(8,.lst .ro 1 (zF L)),(9,.int .i64 ↑(List.length L)),(10,.int .i64 ↑i),(18,.int .i64 x),(19,U.box 0 0),(20,U.box 0 3),(21,.lst .ro 5 (scsU (Bk.scenes b))),(22,.int .i64 ↑(List.length (Bk.scenes b))),(23,U.bool (decide (↑(List.length (Bk.scenes b))≤x))),(25,U.bool (decide (↑(List.length (Bk.scenes b))≤x))),(26,U.box 0 0),(27,U.box 0 3),(28,.lst .ro 5 (scsU (Bk.scenes b))),(29,.int .i64 x),(30,U.eref [.int .i64 (Sc.part q),.int .i64 (Sc.wt q),.int .i64 (Sc.lo q),.int .i64 (Sc.hi q),U.bool (Sc.must q)] 0),(31,U.eref [.int .i64 (Sc.part q),.int .i64 (Sc.wt q),.int .i64 (Sc.lo q),.int .i64 (Sc.hi q),U.bool (Sc.must q)] 4)] [] ([SB.box (Bk.cs b)]) (.c4 rfl rfl rfl rfl (.c4 rfl rfl rfl rfl (.c4 rfl rfl rfl rfl (.c4 rfl rfl rfl rfl (.cons rfl (.cons rfl (.nil rfl))))))) rfl rfl fun fr=>?_
     refine o_gD rfl rfl rfl rfl (decide_eq_false (by omega)) ?_
     refine zP [(2,U.box 0 0),(7,.int .i64 x),(8,.lst .ro 1 (zF L)),(9,.int .i64 ↑(List.length L)),(10,.int .i64 ↑i),(18,.int .i64 x),(19,U.box 0 0),(20,U.box 0 3),(21,.lst .ro 5 (scsU (Bk.scenes b))),(22,.int .i64 ↑(List.length (Bk.scenes b))),(23,U.bool (decide (↑(List.length (Bk.scenes b))≤x))),(25,U.bool (decide (↑(List.length (Bk.scenes b))≤x))),(26,U.box 0 0),(27,U.box 0 3),(28,.lst .ro 5 (scsU (Bk.scenes b))),(29,.int .i64 x),(30,U.eref [.int .i64 (Sc.part q),.int .i64 (Sc.wt q),.int .i64 (Sc.lo q),.int .i64 (Sc.hi q),U.bool (Sc.must q)] 0),(31,U.eref [.int .i64 (Sc.part q),.int .i64 (Sc.wt q),.int .i64 (Sc.lo q),.int .i64 (Sc.hi q),U.bool (Sc.must q)] 4)] [] ([SB.box (Bk.cs b)]) (.c4 rfl rfl rfl rfl (.c4 rfl rfl rfl rfl (.c4 rfl rfl rfl rfl (.c4 rfl rfl rfl rfl (.cons rfl (.cons rfl (.nil rfl))))))) rfl rfl fun fr=>?_
     refine zR rfl rfl sh4 rfl ?_
     refine zO rfl rfl (decide_eq_false (by omega)) ?_
     refine zC ?_
     refine zH [(2,U.box 0 0),(7,.int .i64 x),(8,.lst .ro 1 (zF L)),(9,.int .i64 ↑(List.length L)),(10,.int .i64 ↑i),(18,.int .i64 x),(19,U.box 0 0),(20,U.box 0 3),(21,.lst .ro 5 (scsU (Bk.scenes b))),(22,.int .i64 ↑(List.length (Bk.scenes b))),(23,U.bool (decide (↑(List.length (Bk.scenes b))≤x))),(26,U.box 0 0),(27,U.box 0 3),(28,.lst .ro 5 (scsU (Bk.scenes b))),(29,.int .i64 x),(30,U.eref [.int .i64 (Sc.part q),.int .i64 (Sc.wt q),.int .i64 (Sc.lo q),.int .i64 (Sc.hi q),U.bool (Sc.must q)] 0),(31,U.eref [.int .i64 (Sc.part q),.int .i64 (Sc.wt q),.int .i64 (Sc.lo q),.int .i64 (Sc.hi q),U.bool (Sc.must q)] 4),(32,U.bool (Sc.must q)),(33,U.bool (Sc.must q))] ([SB.box (Bk.cs b)]) (.c4 rfl rfl rfl rfl (.c4 rfl rfl rfl rfl (.c4 rfl rfl rfl rfl (.c4 rfl rfl rfl rfl (.cons rfl (.cons rfl (.cons rfl (.nil rfl)))))))) rfl fun fr=>?_
     refine k_cT rfl (by assumption) (kQ (zB rfl (zC (zX ?_))))
     refine⟨.inr rfl,_,.cons _ _ _ _ (.tmp 4) .nil,?_⟩
     exact .refl _
    |false=>
     rw[hqm]at hw
     have hw:z=chF b x (L.drop (i+1)):=hw
     refine kQ (zW rfl rfl rfl (zC (k_seq (k_cT rfl (decide_eq_true (by omega)) (zL (k_seq (zK (kQ ?_))))))))
     refine zh (u:=.int .i64 (x)) rfl ty83 rfl rfl (Int.natCast_nonneg _) (by simp[hx]) cl3 ?_
     refine zR rfl rfl sh3 rfl ?_
     refine zB rfl (zC (k_seq (kQ (zA rfl (zA rfl (zBq rfl rfl rfl (zA rfl (o_gD rfl rfl rfl rfl (decide_eq_false (by omega)) ?_))))))))
     refine zA rfl (o_gD rfl rfl rfl rfl (decide_eq_false (by omega)) (zE rfl rfl yh (o_gD rfl rfl rfl rfl (decide_eq_false (by omega)) (zE rfl rfl zo (o_gD rfl rfl rfl rfl (decide_eq_false (by omega)) (zG rfl rfl rfl sh23 rfl (o_gD rfl rfl rfl rfl (decide_eq_false (by omega)) (zd rfl ty23 rfl (List.length_map _) ?_))))))))
     refine zP [(2,U.box 0 0),(7,.int .i64 x),(8,.lst .ro 1 (zF L)),(9,.int .i64 ↑(List.length L)),(10,.int .i64 ↑i),(17,U.bool (decide (x≤p))),(18,.int .i64 x),(19,U.box 0 0),(20,U.box 0 3),(21,.lst .ro 5 (scsU (Bk.scenes b))),(22,.int .i64 ↑(List.length (Bk.scenes b)))] [] ([SB.box (Bk.cs b)]) (.c4 rfl rfl rfl rfl (.c4 rfl rfl rfl rfl (.cons rfl (.cons rfl (.cons rfl (.nil rfl)))))) rfl rfl fun fr=>?_
     refine o_gD rfl rfl rfl rfl (decide_eq_false (by omega)) ?_
     refine zP [(2,U.box 0 0),(7,.int .i64 x),(8,.lst .ro 1 (zF L)),(9,.int .i64 ↑(List.length L)),(10,.int .i64 ↑i),(17,U.bool (decide (x≤p))),(18,.int .i64 x),(19,U.box 0 0),(20,U.box 0 3),(21,.lst .ro 5 (scsU (Bk.scenes b))),(22,.int .i64 ↑(List.length (Bk.scenes b)))] [] ([SB.box (Bk.cs b)]) (.c4 rfl rfl rfl rfl (.c4 rfl rfl rfl rfl (.cons rfl (.cons rfl (.cons rfl (.nil rfl)))))) rfl rfl fun fr=>?_
     refine o_geq rfl rfl rfl (zO rfl rfl (decide_eq_false (by omega)) ?_)
     refine zA rfl (o_gD rfl rfl rfl rfl (decide_eq_false (by omega)) (zE rfl rfl yh (o_gD rfl rfl rfl rfl (decide_eq_false (by omega)) (zE rfl rfl zo (o_gD rfl rfl rfl rfl (decide_eq_false (by omega)) (zG rfl rfl rfl sh23 rfl (o_gD rfl rfl rfl rfl (decide_eq_false (by omega)) (zA rfl ?_))))))))
     refine o_gD rfl rfl rfl rfl (decide_eq_false (by omega)) (zh (u:=(q).u) rfl ty23 rfl rfl (by omega) (by simp[hq]) cl50 ?_)
     refine o_gD rfl rfl rfl rfl (decide_eq_false (by omega)) (wB rfl rfl zDh ?_)
     refine zP [(2,U.box 0 0),(7,.int .i64 x),(8,.lst .ro 1 (zF L)),(9,.int .i64 ↑(List.length L)),(10,.int .i64 ↑i),(18,.int .i64 x),(19,U.box 0 0),(20,U.box 0 3),(21,.lst .ro 5 (scsU (Bk.scenes b))),(22,.int .i64 ↑(List.length (Bk.scenes b))),(23,U.bool (decide (↑(List.length (Bk.scenes b))≤x))),(25,U.bool (decide (↑(List.length (Bk.scenes b))≤x))),(26,U.box 0 0),(27,U.box 0 3),(28,.lst .ro 5 (scsU (Bk.scenes b))),(29,.int .i64 x),(30,U.eref [.int .i64 (Sc.part q),.int .i64 (Sc.wt q),.int .i64 (Sc.lo q),.int .i64 (Sc.hi q),U.bool (Sc.must q)] 0),(31,U.eref [.int .i64 (Sc.part q),.int .i64 (Sc.wt q),.int .i64 (Sc.lo q),.int .i64 (Sc.hi q),U.bool (Sc.must q)] 4)] [] ([SB.box (Bk.cs b)]) (.c4 rfl rfl rfl rfl (.c4 rfl rfl rfl rfl (.c4 rfl rfl rfl rfl (.c4 rfl rfl rfl rfl (.cons rfl (.cons rfl (.nil rfl))))))) rfl rfl fun fr=>?_
     refine o_gD rfl rfl rfl rfl (decide_eq_false (by omega)) ?_
     refine zP [(2,U.box 0 0),(7,.int .i64 x),(8,.lst .ro 1 (zF L)),(9,.int .i64 ↑(List.length L)),(10,.int .i64 ↑i),(18,.int .i64 x),(19,U.box 0 0),(20,U.box 0 3),(21,.lst .ro 5 (scsU (Bk.scenes b))),(22,.int .i64 ↑(List.length (Bk.scenes b))),(23,U.bool (decide (↑(List.length (Bk.scenes b))≤x))),(25,U.bool (decide (↑(List.length (Bk.scenes b))≤x))),(26,U.box 0 0),(27,U.box 0 3),(28,.lst .ro 5 (scsU (Bk.scenes b))),(29,.int .i64 x),(30,U.eref [.int .i64 (Sc.part q),.int .i64 (Sc.wt q),.int .i64 (Sc.lo q),.int .i64 (Sc.hi q),U.bool (Sc.must q)] 0),(31,U.eref [.int .i64 (Sc.part q),.int .i64 (Sc.wt q),.int .i64 (Sc.lo q),.int .i64 (Sc.hi q),U.bool (Sc.must q)] 4)] [] ([SB.box (Bk.cs b)]) (.c4 rfl rfl rfl rfl (.c4 rfl rfl rfl rfl (.c4 rfl rfl rfl rfl (.c4 rfl rfl rfl rfl (.cons rfl (.cons rfl (.nil rfl))))))) rfl rfl fun fr=>?_
     refine zR rfl rfl sh4 rfl ?_
     refine zO rfl rfl (decide_eq_false (by omega)) ?_
     refine zC ?_
     refine zH [(2,U.box 0 0),(7,.int .i64 x),(8,.lst .ro 1 (zF L)),(9,.int .i64 ↑(List.length L)),(10,.int .i64 ↑i),(18,.int .i64 x),(19,U.box 0 0),(20,U.box 0 3),(21,.lst .ro 5 (scsU (Bk.scenes b))),(22,.int .i64 ↑(List.length (Bk.scenes b))),(23,U.bool (decide (↑(List.length (Bk.scenes b))≤x))),(26,U.box 0 0),(27,U.box 0 3),(28,.lst .ro 5 (scsU (Bk.scenes b))),(29,.int .i64 x),(30,U.eref [.int .i64 (Sc.part q),.int .i64 (Sc.wt q),.int .i64 (Sc.lo q),.int .i64 (Sc.hi q),U.bool (Sc.must q)] 0),(31,U.eref [.int .i64 (Sc.part q),.int .i64 (Sc.wt q),.int .i64 (Sc.lo q),.int .i64 (Sc.hi q),U.bool (Sc.must q)] 4),(32,U.bool (Sc.must q)),(33,U.bool (Sc.must q))] ([SB.box (Bk.cs b)]) (.c4 rfl rfl rfl rfl (.c4 rfl rfl rfl rfl (.c4 rfl rfl rfl rfl (.c4 rfl rfl rfl rfl (.cons rfl (.cons rfl (.cons rfl (.nil rfl)))))))) rfl fun fr=>?_
     refine k_cF rfl (by assumption) (zL (k_region (zA rfl (zB rfl (zC (k_region ?_))))))
     refine yH rfl rfl rfl (by unfold I64;omega) (zA rfl (zC ?_))
     exact⟨kk - 1,by omega,i+1,by omega,by rw[hl2];exact hw,by omega,by omega,rfl,.cons rfl (.cons (by rw[hl2];rfl) (.cons rfl (.cons rfl (.cons rfl (.nil rfl)))))⟩
   ·rw[decide_eq_false c2,Bool.false_and]at hw
    obtain rfl:z=false:=hw
    refine kQ (zW rfl rfl rfl (zC (k_seq (k_cT rfl (decide_eq_true (by omega)) (zL (k_seq (zK (kQ ?_))))))))
    refine zh (u:=.int .i64 (x)) rfl ty83 rfl rfl (Int.natCast_nonneg _) (by simp[hx]) cl3 ?_
    refine zR rfl rfl sh3 rfl ?_
    refine zB rfl (zC (k_seq (kQ (zA rfl (zA rfl (zBq rfl rfl rfl (zA rfl (o_gD rfl rfl rfl rfl (decide_eq_false (by omega)) ?_))))))))
    refine zA rfl (o_gD rfl rfl rfl rfl (decide_eq_false (by omega)) (zE rfl rfl yh (o_gD rfl rfl rfl rfl (decide_eq_false (by omega)) (zE rfl rfl zo (o_gD rfl rfl rfl rfl (decide_eq_false (by omega)) (zG rfl rfl rfl sh23 rfl (o_gD rfl rfl rfl rfl (decide_eq_false (by omega)) (zd rfl ty23 rfl (List.length_map _) ?_))))))))
    refine zP [(2,U.box 0 0),(7,.int .i64 x),(8,.lst .ro 1 (zF L)),(9,.int .i64 ↑(List.length L)),(10,.int .i64 ↑i),(17,U.bool (decide (x≤p))),(18,.int .i64 x),(19,U.box 0 0),(20,U.box 0 3),(21,.lst .ro 5 (scsU (Bk.scenes b))),(22,.int .i64 ↑(List.length (Bk.scenes b)))] [] ([SB.box (Bk.cs b)]) (.c4 rfl rfl rfl rfl (.c4 rfl rfl rfl rfl (.cons rfl (.cons rfl (.cons rfl (.nil rfl)))))) rfl rfl fun fr=>?_
    refine o_gD rfl rfl rfl rfl (decide_eq_false (by omega)) ?_
    refine zP [(2,U.box 0 0),(7,.int .i64 x),(8,.lst .ro 1 (zF L)),(9,.int .i64 ↑(List.length L)),(10,.int .i64 ↑i),(17,U.bool (decide (x≤p))),(18,.int .i64 x),(19,U.box 0 0),(20,U.box 0 3),(21,.lst .ro 5 (scsU (Bk.scenes b))),(22,.int .i64 ↑(List.length (Bk.scenes b)))] [] ([SB.box (Bk.cs b)]) (.c4 rfl rfl rfl rfl (.c4 rfl rfl rfl rfl (.cons rfl (.cons rfl (.cons rfl (.nil rfl)))))) rfl rfl fun fr=>?_
    refine o_geq rfl rfl rfl (zO rfl rfl (decide_eq_false (by omega)) ?_)
    refine zA rfl (o_gS rfl rfl rfl rfl (decide_eq_true (by omega)) (o_gS rfl rfl rfl rfl (decide_eq_true (by omega)) (o_gS rfl rfl rfl rfl (decide_eq_true (by omega)) (o_gS rfl rfl rfl rfl (decide_eq_true (by omega)) (o_gS rfl rfl rfl rfl (decide_eq_true (by omega)) (o_gS rfl rfl rfl rfl (decide_eq_true (by omega)) ?_))))))
    refine zP [(2,U.box 0 0),(7,.int .i64 x),(8,.lst .ro 1 (zF L)),(9,.int .i64 ↑(List.length L)),(10,.int .i64 ↑i),(18,.int .i64 x),(19,U.box 0 0),(20,U.box 0 3),(21,.lst .ro 5 (scsU (Bk.scenes b))),(22,.int .i64 ↑(List.length (Bk.scenes b))),(23,U.bool (decide (↑(List.length (Bk.scenes b))≤x))),(25,U.bool (decide (↑(List.length (Bk.scenes b))≤x))),(26,U.tup []),(27,U.tup []),(28,U.tup []),(29,U.tup []),(30,U.tup []),(31,U.tup [])] [] ([SB.box (Bk.cs b)]) (.c4 rfl rfl rfl rfl (.c4 rfl rfl rfl rfl (.c4 rfl rfl rfl rfl (.c4 rfl rfl rfl rfl (.cons rfl (.cons rfl (.nil rfl))))))) rfl rfl fun fr=>?_
    refine o_gS rfl rfl rfl rfl (decide_eq_true (by omega)) (zV rfl rfl (decide_eq_true (by omega)) ?_)
    refine zC ?_
    refine zH [(2,U.box 0 0),(7,.int .i64 x),(8,.lst .ro 1 (zF L)),(9,.int .i64 ↑(List.length L)),(10,.int .i64 ↑i),(18,.int .i64 x),(19,U.box 0 0),(20,U.box 0 3),(21,.lst .ro 5 (scsU (Bk.scenes b))),(22,.int .i64 ↑(List.length (Bk.scenes b))),(23,U.bool (decide (↑(List.length (Bk.scenes b))≤x))),(26,U.tup []),(27,U.tup []),(28,U.tup []),(29,U.tup []),(30,U.tup []),(31,U.tup []),(32,U.tup []),(33,.bool true)] ([SB.box (Bk.cs b)]) (.c4 rfl rfl rfl rfl (.c4 rfl rfl rfl rfl (.c4 rfl rfl rfl rfl (.c4 rfl rfl rfl rfl (.cons rfl (.cons rfl (.cons rfl (.nil rfl)))))))) rfl fun fr=>?_
    refine k_cT rfl rfl ?_
    refine kQ (zB rfl (zC (zX ?_)))
    refine⟨.inr rfl,_,.cons _ _ _ _ (.tmp 4) .nil,?_⟩
    exact .refl _
  ·rw[decide_eq_false c1,Bool.false_and]at hw
   obtain rfl:z=false:=hw
   refine kQ (zW rfl rfl rfl (zC (k_seq (k_cT rfl (decide_eq_true (by omega)) (zL (k_seq (zK (kQ ?_))))))))
   refine zh (u:=.int .i64 (x)) rfl ty83 rfl rfl (Int.natCast_nonneg _) (by simp[hx]) cl3 ?_
   refine zR rfl rfl sh3 rfl ?_
   refine zB rfl (zC (k_seq (kQ (zA rfl (zA rfl (zBq rfl rfl rfl (zA rfl (o_gS rfl rfl rfl rfl (decide_eq_true (by omega)) ?_))))))))
   refine o_gS rfl rfl rfl rfl (decide_eq_true (by omega)) (o_gS rfl rfl rfl rfl (decide_eq_true (by omega)) (o_gS rfl rfl rfl rfl (decide_eq_true (by omega)) (o_gS rfl rfl rfl rfl (decide_eq_true (by omega)) ?_)))
   refine zP [(2,U.box 0 0),(7,.int .i64 x),(8,.lst .ro 1 (zF L)),(9,.int .i64 ↑(List.length L)),(10,.int .i64 ↑i),(17,U.bool (decide (x≤p))),(18,U.tup []),(19,U.tup []),(20,U.tup []),(21,U.tup []),(22,U.tup [])] [] ([SB.box (Bk.cs b)]) (.c4 rfl rfl rfl rfl (.c4 rfl rfl rfl rfl (.cons rfl (.cons rfl (.cons rfl (.nil rfl)))))) rfl rfl fun fr=>?_
   refine o_gS rfl rfl rfl rfl (decide_eq_true (by omega)) (zV rfl rfl (decide_eq_true (by omega)) ?_)
   refine zA rfl (o_gS rfl rfl rfl rfl rfl (o_gS rfl rfl rfl rfl rfl (o_gS rfl rfl rfl rfl rfl (o_gS rfl rfl rfl rfl rfl (o_gS rfl rfl rfl rfl rfl (o_gS rfl rfl rfl rfl rfl ?_))))))
   refine zP [(2,U.box 0 0),(7,.int .i64 x),(8,.lst .ro 1 (zF L)),(9,.int .i64 ↑(List.length L)),(10,.int .i64 ↑i),(18,U.tup []),(19,U.tup []),(20,U.tup []),(21,U.tup []),(22,U.tup []),(23,U.tup []),(25,.bool true),(26,U.tup []),(27,U.tup []),(28,U.tup []),(29,U.tup []),(30,U.tup []),(31,U.tup [])] [] ([SB.box (Bk.cs b)]) (.c4 rfl rfl rfl rfl (.c4 rfl rfl rfl rfl (.c4 rfl rfl rfl rfl (.c4 rfl rfl rfl rfl (.cons rfl (.cons rfl (.nil rfl))))))) rfl rfl fun fr=>?_
   refine o_gS rfl rfl rfl rfl rfl (zV rfl rfl rfl ?_)
   refine zC ?_
   refine zH [(2,U.box 0 0),(7,.int .i64 x),(8,.lst .ro 1 (zF L)),(9,.int .i64 ↑(List.length L)),(10,.int .i64 ↑i),(18,U.tup []),(19,U.tup []),(20,U.tup []),(21,U.tup []),(22,U.tup []),(23,U.tup []),(26,U.tup []),(27,U.tup []),(28,U.tup []),(29,U.tup []),(30,U.tup []),(31,U.tup []),(32,U.tup []),(33,.bool true)] ([SB.box (Bk.cs b)]) (.c4 rfl rfl rfl rfl (.c4 rfl rfl rfl rfl (.c4 rfl rfl rfl rfl (.c4 rfl rfl rfl rfl (.cons rfl (.cons rfl (.cons rfl (.nil rfl)))))))) rfl fun fr=>?_
   refine k_cT rfl rfl ?_
   refine kQ (zB rfl (zC (zX ?_)))
   refine⟨.inr rfl,_,.cons _ _ _ _ (.tmp 4) .nil,?_⟩
   exact .refl _
 ·have hd:L.drop i=[]:=List.drop_eq_nil_of_le (by omega)
  rw[hd]at hw
  obtain rfl:z=true:=hw
  refine kQ (zW rfl rfl rfl (zC (k_seq (k_cF rfl (decide_eq_false (by omega)) (yO (kQ (zB rfl (zC ?_))))))))
  refine zX ?_
  refine⟨.inr rfl,_,.cons _ _ _ _ (.tmp 4) .nil,?_⟩
  exact .refl _
end Go.Proofs.YtlknfhjfkcboiaaDoor.night
