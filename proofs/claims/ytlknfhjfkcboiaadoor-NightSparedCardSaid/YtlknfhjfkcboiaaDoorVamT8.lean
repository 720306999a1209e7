import Derived.Test.YtlknfhjfkcboiaaDoorVamT7
set_option linter.unusedVariables false
set_option linter.unusedSimpArgs false
set_option linter.constructorNameAsVariable false
namespace Go.Proofs.YtlknfhjfkcboiaaDoor.night
open Vam
variable {is:FuncId→Bool}{orc:Known}
theorem ret84(hi:Off is){b:Bk}(h:BOk b){i:Nat}{q:Sc}(hq:b.scenes[i]? =some q)(x:Int):RetP Tryd.prog is orc 84 [b.u,.int .i64 i,.int .i64 x] (.bool (inS q.lo q.hi x)):=by
 refine yC body84 pure84 (hi 84 (by decide)) rfl rfl (zEi (zAG b 4) (.int _ _ _) (.int _ _ _)) (.inl (.bool _ _)) ?_
 have q80:=ret80 (orc:=orc) hi q.lo q.hi x
 have hil:=(List.getElem?_eq_some_iff.1 hq).1
 refine kQ (yH rfl rfl (zA rfl (zC ?_)))
 refine zK [(1,.int .i64 ↑i),(2,.int .i64 x),(3,U.box 0 0)] ([SB.box (Bk.cs b)]) (.cons rfl (.cons rfl (.cons rfl (.nil rfl)))) rfl fun fr=>?_
 refine kQ (zD rfl rfl wD (zD rfl rfl yd (zE rfl rfl rfl sh23 rfl (zB rfl (yG (u:=(q).u) rfl ty23 rfl rfl (Int.natCast_nonneg _) (by simp[hq]) cl50 ?_)))))
 refine zAl rfl rfl zAA ?_
 refine wT rfl rfl sh48 rfl ?_
 refine zB rfl (zN rfl (q80) (.lrefl _) (zA rfl (zC (zZ ?_))))
 refine⟨.inr rfl,_,.cons _ _ _ _ (.tmp 6) .nil,?_⟩
 exact .refl _
def dnB(b:Bk)(i:Nat)(x:Int):Bool:=(decide (x= -1)&& !zEs b i)||(match b.scenes[i]? with|none=>false|some q=>inS q.lo q.hi x)
def dnF(b:Bk):Nat→List Int→Bool
 |_,[]=>true
 |i,x::l=>dnB b i x&&dnF b (i+1) l
def zEW(b:Bk)(d:List Int):Bool:=decide (d.length≤b.scenes.length)&&dnF b 0 d
set_option maxHeartbeats 8000000 in
theorem ret62(hi:Off is){b:Bk}(h:BOk b)(d:List Int):RetP Tryd.prog is orc 62 [b.u,.lst .ro 1 (zF d)] (.bool (zEW b d)):=by
 refine yC body62 pure62 (hi 62 (by decide)) rfl rfl (yh (zAG b 4) (zn 6 .ro (fun h=>by cases h) 1 d)) (.inl (.bool _ _)) ?_
 have hn:=h.sn
 unfold zEW
 by_cases hl:d.length≤b.scenes.length
 ·rw[decide_eq_true hl,Bool.true_and]
  generalize hz:dnF b 0 d=z
  refine kQ (yH rfl rfl (zA rfl (zC ?_)))
  refine zK [(1,.lst .ro 1 (zF d)),(2,U.box 0 0)] ([SB.box (Bk.cs b)]) (.cons rfl (.cons rfl (.nil rfl))) rfl fun fr=>?_
  refine k_seq (kQ (zB rfl (zp rfl ty22 rfl (List.length_map _) ?_)))
  refine zD rfl rfl wD (zD rfl rfl yd (zE rfl rfl rfl sh23 rfl (zp rfl ty23 rfl (List.length_map _) ?_)))
  refine zEq rfl rfl rfl (zC (k_cF rfl (decide_eq_false (by omega)) (zU (k_seq (kQ (zB rfl (zp rfl ty22 rfl (List.length_map _) ?_)))))))
  refine zB rfl (zC (zQ ?_))
  refine yr (fun kk s2=>∃i:Nat,kk+i=d.length∧z=dnF b i (d.drop i)∧s2.st=[.box (Bk.cs b)]∧Holds s2 [(2,.box 0 0),(15,.lst .ro 1 (zF d)),(16,.int .i64 d.length),(17,.int .i64 i)]) (fun kk s2 hI=>?_) d.length _ ⟨0,rfl,hz.symm,rfl,.c4 rfl rfl rfl rfl (.nil rfl)⟩
  obtain⟨i,hk,hw,hst2,hs2⟩:=hI
  clear hz
  refine zK _ _ hs2 hst2 fun fr2=>?_
  by_cases hin:i<d.length
  ·obtain⟨x,hx⟩:∃x,d[i]? =some x:=⟨d[i],List.getElem?_eq_getElem hin⟩
   rw[zDZ hx]at hw
   have hw:z=(dnB b i x&&dnF b (i+1) (d.drop (i+1))):=hw
   obtain⟨q,hq⟩:∃q,b.scenes[i]? =some q:=⟨b.scenes[i],List.getElem?_eq_getElem (by omega)⟩
   have hm:zEs b i=q.must:=by unfold zEs;rw[hq];rfl
   have hdn:dnB b i x=((decide (x= -1)&& !q.must)||inS q.lo q.hi x):=by unfold dnB;rw[hq,hm]
   rw[hdn]at hw
   have q84:=ret84 (orc:=orc) hi h hq x
   by_cases h1:x= -1
   ·cases hqm:q.must with
    |false=>
     have k20:(!q.must)=true:=by rw[hqm];rfl
     have k21:(!!q.must)=false:=by rw[hqm];rfl
     rw[decide_eq_true h1,hqm]at hw
     have hw:z=dnF b (i+1) (d.drop (i+1)):=hw
     refine kQ (ze rfl rfl rfl (zC (k_seq (k_cT rfl (decide_eq_true (by omega)) (zU (k_seq (zQ (kQ ?_))))))))
     refine zB rfl (yG (u:=.int .i64 (x)) rfl ty22 rfl rfl (Int.natCast_nonneg _) (by simp[hx]) cl3 ?_)
     refine zV rfl rfl sh3 rfl ?_
     refine zA rfl (zA rfl (zC (kQ (zB rfl (wn rfl rfl rfl (zB rfl (o_gD rfl rfl rfl rfl (decide_eq_true (by omega)) ?_)))))))
     refine zD rfl rfl wD (o_gD rfl rfl rfl rfl (decide_eq_true (by omega)) ?_)
     refine zD rfl rfl yd (o_gD rfl rfl rfl rfl (decide_eq_true (by omega)) ?_)
     refine zE rfl rfl rfl sh23 rfl (o_gD rfl rfl rfl rfl (decide_eq_true (by omega)) ?_)
     refine zB rfl (o_gD rfl rfl rfl rfl (decide_eq_true (by omega)) ?_)
     refine yG (u:=(q).u) rfl ty23 rfl rfl (Int.natCast_nonneg _) (by simp[hq]) cl50 ?_
     refine o_gD rfl rfl rfl rfl (decide_eq_true (by omega)) ?_
     refine zAl rfl rfl zFu ?_
     refine zM [(2,U.box 0 0),(5,.int .i64 ↑i),(6,.int .i64 x),(15,.lst .ro 1 (zF d)),(16,.int .i64 ↑(List.length d)),(17,.int .i64 ↑i),(24,U.bool (decide (x=(-1:Int)))),(25,U.box 0 0),(26,U.box 0 3),(27,.lst .ro 5 (scsU (Bk.scenes b))),(28,.int .i64 ↑i),(29,U.eref [.int .i64 (Sc.part q),.int .i64 (Sc.wt q),.int .i64 (Sc.lo q),.int .i64 (Sc.hi q),U.bool (Sc.must q)] 0),(30,U.eref [.int .i64 (Sc.part q),.int .i64 (Sc.wt q),.int .i64 (Sc.lo q),.int .i64 (Sc.hi q),U.bool (Sc.must q)] 4)] [] ([SB.box (Bk.cs b)]) (.c4 rfl rfl rfl rfl (.c4 rfl rfl rfl rfl (.c4 rfl rfl rfl rfl (.cons rfl (.nil rfl))))) rfl rfl fun fr=>?_
     refine o_gD rfl rfl rfl rfl (decide_eq_true (by omega)) ?_
     refine zM [(2,U.box 0 0),(5,.int .i64 ↑i),(6,.int .i64 x),(15,.lst .ro 1 (zF d)),(16,.int .i64 ↑(List.length d)),(17,.int .i64 ↑i),(24,U.bool (decide (x=(-1:Int)))),(25,U.box 0 0),(26,U.box 0 3),(27,.lst .ro 5 (scsU (Bk.scenes b))),(28,.int .i64 ↑i),(29,U.eref [.int .i64 (Sc.part q),.int .i64 (Sc.wt q),.int .i64 (Sc.lo q),.int .i64 (Sc.hi q),U.bool (Sc.must q)] 0),(30,U.eref [.int .i64 (Sc.part q),.int .i64 (Sc.wt q),.int .i64 (Sc.lo q),.int .i64 (Sc.hi q),U.bool (Sc.must q)] 4)] [] ([SB.box (Bk.cs b)]) (.c4 rfl rfl rfl rfl (.c4 rfl rfl rfl rfl (.c4 rfl rfl rfl rfl (.cons rfl (.nil rfl))))) rfl rfl fun fr=>?_
     refine zV rfl rfl sh4 rfl ?_
     refine o_gD rfl rfl rfl rfl (decide_eq_true (by omega)) ?_
     refine yB rfl rfl (zT rfl rfl (decide_eq_true (by omega)) ?_)
     refine zA rfl (zC ?_)
     refine zK [(2,U.box 0 0),(5,.int .i64 ↑i),(6,.int .i64 x),(7,U.bool !Sc.must q),(15,.lst .ro 1 (zF d)),(16,.int .i64 ↑(List.length d)),(17,.int .i64 ↑i),(25,U.box 0 0),(26,U.box 0 3),(27,.lst .ro 5 (scsU (Bk.scenes b))),(28,.int .i64 ↑i),(29,U.eref [.int .i64 (Sc.part q),.int .i64 (Sc.wt q),.int .i64 (Sc.lo q),.int .i64 (Sc.hi q),U.bool (Sc.must q)] 0),(30,U.eref [.int .i64 (Sc.part q),.int .i64 (Sc.wt q),.int .i64 (Sc.lo q),.int .i64 (Sc.hi q),U.bool (Sc.must q)] 4),(31,U.bool (Sc.must q)),(32,U.bool !Sc.must q)] ([SB.box (Bk.cs b)]) (.c4 rfl rfl rfl rfl (.c4 rfl rfl rfl rfl (.c4 rfl rfl rfl rfl (.cons rfl (.cons rfl (.cons rfl (.nil rfl))))))) rfl fun fr=>?_
     refine kQ (zB rfl (yB rfl rfl (zB rfl (o_gS rfl rfl rfl rfl (by assumption) (o_gS rfl rfl rfl rfl (by assumption) (o_gS rfl rfl rfl rfl (by assumption) (o_gS rfl rfl rfl rfl (by assumption) (o_gS rfl rfl rfl rfl (by assumption) ?_))))))))
     refine zL rfl rfl (by assumption) ?_
     refine zC (k_cF rfl rfl ?_)
     refine zU (k_region ?_)
     refine yV rfl rfl rfl (by unfold I64;omega) (zB rfl (zC ?_))
     exact⟨kk - 1,by omega,i+1,by omega,hw,rfl,.c4 rfl rfl rfl rfl (.nil rfl)⟩
    |true=>
     have k20:(!q.must)=false:=by rw[hqm];rfl
     have k21:(!!q.must)=true:=by rw[hqm];rfl
     rw[decide_eq_true h1,hqm]at hw
     have hw:z=(inS q.lo q.hi x&&dnF b (i+1) (d.drop (i+1))):=hw
     cases hs:inS q.lo q.hi x with
     |true=>
      rw[hs]at hw q84
      have hw:z=dnF b (i+1) (d.drop (i+1)):=hw
      refine kQ (ze rfl rfl rfl (zC (k_seq (k_cT rfl (decide_eq_true (by omega)) (zU (k_seq (zQ (kQ ?_))))))))
      refine zB rfl (yG (u:=.int .i64 (x)) rfl ty22 rfl rfl (Int.natCast_nonneg _) (by simp[hx]) cl3 ?_)
      refine zV rfl rfl sh3 rfl ?_
      refine zA rfl (zA rfl (zC (kQ (zB rfl (wn rfl rfl rfl (zB rfl (o_gD rfl rfl rfl rfl (decide_eq_true (by omega)) ?_)))))))
      refine zD rfl rfl wD (o_gD rfl rfl rfl rfl (decide_eq_true (by omega)) ?_)
      refine zD rfl rfl yd (o_gD rfl rfl rfl rfl (decide_eq_true (by omega)) ?_)
      refine zE rfl rfl rfl sh23 rfl (o_gD rfl rfl rfl rfl (decide_eq_true (by omega)) ?_)
      refine zB rfl (o_gD rfl rfl rfl rfl (decide_eq_true (by omega)) ?_)
      refine yG (u:=(q).u) rfl ty23 rfl rfl (Int.natCast_nonneg _) (by simp[hq]) cl50 ?_
      refine o_gD rfl rfl rfl rfl (decide_eq_true (by omega)) ?_
      refine zAl rfl rfl zFu ?_
      refine zM [(2,U.box 0 0),(5,.int .i64 ↑i),(6,.int .i64 x),(15,.lst .ro 1 (zF d)),(16,.int .i64 ↑(List.length d)),(17,.int .i64 ↑i),(24,U.bool (decide (x=(-1:Int)))),(25,U.box 0 0),(26,U.box 0 3),(27,.lst .ro 5 (scsU (Bk.scenes b))),(28,.int .i64 ↑i),(29,U.eref [.int .i64 (Sc.part q),.int .i64 (Sc.wt q),.int .i64 (Sc.lo q),.int .i64 (Sc.hi q),U.bool (Sc.must q)] 0),(30,U.eref [.int .i64 (Sc.part q),.int .i64 (Sc.wt q),.int .i64 (Sc.lo q),.int .i64 (Sc.hi q),U.bool (Sc.must q)] 4)] [] ([SB.box (Bk.cs b)]) (.c4 rfl rfl rfl rfl (.c4 rfl rfl rfl rfl (.c4 rfl rfl rfl rfl (.cons rfl (.nil rfl))))) rfl rfl fun fr=>?_
      refine o_gD rfl rfl rfl rfl (decide_eq_true (by omega)) ?_
      refine zM [(2,U.box 0 0),(5,.int .i64 ↑i),(6,.int .i64 x),(15,.lst .ro 1 (zF d)),(16,.int .i64 ↑(List.length d)),(17,.int .i64 ↑i),(24,U.bool (decide (x=(-1:Int)))),(25,U.box 0 0),(26,U.box 0 3),(27,.lst .ro 5 (scsU (Bk.scenes b))),(28,.int .i64 ↑i),(29,U.eref [.int .i64 (Sc.part q),.int .i64 (Sc.wt q),.int .i64 (Sc.lo q),.int .i64 (Sc.hi q),U.bool (Sc.must q)] 0),(30,U.eref [.int .i64 (Sc.part q),.int .i64 (Sc.wt q),.int .i64 (Sc.lo q),.int .i64 (Sc.hi q),U.bool (Sc.must q)] 4)] [] ([SB.box (Bk.cs b)]) (.c4 rfl rfl rfl rfl (.c4 rfl rfl rfl rfl (.c4 rfl rfl rfl rfl (.cons rfl (.nil rfl))))) rfl rfl fun fr=>?_
      refine zV rfl rfl sh4 rfl ?_
      refine o_gD rfl rfl rfl rfl (decide_eq_true (by omega)) ?_
      refine yB rfl rfl (zT rfl rfl (decide_eq_true (by omega)) ?_)
      refine zA rfl (zC ?_)
      refine zK [(2,U.box 0 0),(5,.int .i64 ↑i),(6,.int .i64 x),(7,U.bool !Sc.must q),(15,.lst .ro 1 (zF d)),(16,.int .i64 ↑(List.length d)),(17,.int .i64 ↑i),(25,U.box 0 0),(26,U.box 0 3),(27,.lst .ro 5 (scsU (Bk.scenes b))),(28,.int .i64 ↑i),(29,U.eref [.int .i64 (Sc.part q),.int .i64 (Sc.wt q),.int .i64 (Sc.lo q),.int .i64 (Sc.hi q),U.bool (Sc.must q)] 0),(30,U.eref [.int .i64 (Sc.part q),.int .i64 (Sc.wt q),.int .i64 (Sc.lo q),.int .i64 (Sc.hi q),U.bool (Sc.must q)] 4),(31,U.bool (Sc.must q)),(32,U.bool !Sc.must q)] ([SB.box (Bk.cs b)]) (.c4 rfl rfl rfl rfl (.c4 rfl rfl rfl rfl (.c4 rfl rfl rfl rfl (.cons rfl (.cons rfl (.cons rfl (.nil rfl))))))) rfl fun fr=>?_
      refine kQ (zB rfl (yB rfl rfl (zB rfl (o_gD rfl rfl rfl rfl (by assumption) (zP rfl rfl rfl sh70 rfl (o_gD rfl rfl rfl rfl (by assumption) (zB rfl (o_gD rfl rfl rfl rfl (by assumption) ?_))))))))
      refine zB rfl (o_gD rfl rfl rfl rfl (by assumption) (zN rfl (q84) (.lrefl _) (o_gD rfl rfl rfl rfl (by assumption) (yB rfl rfl (zT rfl rfl (by assumption) ?_)))))
      refine zC (k_cF rfl rfl ?_)
      refine zU (k_region ?_)
      refine yV rfl rfl rfl (by unfold I64;omega) (zB rfl (zC ?_))
      exact⟨kk - 1,by omega,i+1,by omega,hw,rfl,.c4 rfl rfl rfl rfl (.nil rfl)⟩
     |false=>
      rw[hs]at hw q84
      obtain rfl:z=false:=hw
      refine kQ (ze rfl rfl rfl (zC (k_seq (k_cT rfl (decide_eq_true (by omega)) (zU (k_seq (zQ (kQ ?_))))))))
      refine zB rfl (yG (u:=.int .i64 (x)) rfl ty22 rfl rfl (Int.natCast_nonneg _) (by simp[hx]) cl3 ?_)
      refine zV rfl rfl sh3 rfl ?_
      refine zA rfl (zA rfl (zC (kQ (zB rfl (wn rfl rfl rfl (zB rfl (o_gD rfl rfl rfl rfl (decide_eq_true (by omega)) ?_)))))))
      refine zD rfl rfl wD (o_gD rfl rfl rfl rfl (decide_eq_true (by omega)) ?_)
      refine zD rfl rfl yd (o_gD rfl rfl rfl rfl (decide_eq_true (by omega)) ?_)
      refine zE rfl rfl rfl sh23 rfl (o_gD rfl rfl rfl rfl (decide_eq_true (by omega)) ?_)
      refine zB rfl (o_gD rfl rfl rfl rfl (decide_eq_true (by omega)) ?_)
      refine yG (u:=(q).u) rfl ty23 rfl rfl (Int.natCast_nonneg _) (by simp[hq]) cl50 ?_
      refine o_gD rfl rfl rfl rfl (decide_eq_true (by omega)) ?_
      refine zAl rfl rfl zFu ?_
      refine zM [(2,U.box 0 0),(5,.int .i64 ↑i),(6,.int .i64 x),(15,.lst .ro 1 (zF d)),(16,.int .i64 ↑(List.length d)),(17,.int .i64 ↑i),(24,U.bool (decide (x=(-1:Int)))),(25,U.box 0 0),(26,U.box 0 3),(27,.lst .ro 5 (scsU (Bk.scenes b))),(28,.int .i64 ↑i),(29,U.eref [.int .i64 (Sc.part q),.int .i64 (Sc.wt q),.int .i64 (Sc.lo q),.int .i64 (Sc.hi q),U.bool (Sc.must q)] 0),(30,U.eref [.int .i64 (Sc.part q),.int .i64 (Sc.wt q),.int .i64 (Sc.lo q),.int .i64 (Sc.hi q),U.bool (Sc.must q)] 4)] [] ([SB.box (Bk.cs b)]) (.c4 rfl rfl rfl rfl (.c4 rfl rfl rfl rfl (.c4 rfl rfl rfl rfl (.cons rfl (.nil rfl))))) rfl rfl fun fr=>?_
      refine o_gD rfl rfl rfl rfl (decide_eq_true (by omega)) ?_
      refine zM [(2,U.box 0 0),(5,.int .i64 ↑i),(6,.int .i64 x),(15,.lst .ro 1 (zF d)),(16,.int .i64 ↑(List.length d)),(17,.int .i64 ↑i),(24,U.bool (decide (x=(-1:Int)))),(25,U.box 0 0),(26,U.box 0 3),(27,.lst .ro 5 (scsU (Bk.scenes b))),(28,.int .i64 ↑i),(29,U.eref [.int .i64 (Sc.part q),.int .i64 (Sc.wt q),.int .i64 (Sc.lo q),.int .i64 (Sc.hi q),U.bool (Sc.must q)] 0),(30,U.eref [.int .i64 (Sc.part q),.int .i64 (Sc.wt q),.int .i64 (Sc.lo q),.int .i64 (Sc.hi q),U.bool (Sc.must q)] 4)] [] ([SB.box (Bk.cs b)]) (.c4 rfl rfl rfl rfl (.c4 rfl rfl rfl rfl (.c4 rfl rfl rfl rfl (.cons rfl (.nil rfl))))) rfl rfl fun fr=>?_
      refine zV rfl rfl sh4 rfl ?_
      refine o_gD rfl rfl rfl rfl (decide_eq_true (by omega)) ?_
      refine yB rfl rfl (zT rfl rfl (decide_eq_true (by omega)) ?_)
      refine zA rfl (zC ?_)
      refine zK [(2,U.box 0 0),(5,.int .i64 ↑i),(6,.int .i64 x),(7,U.bool !Sc.must q),(15,.lst .ro 1 (zF d)),(16,.int .i64 ↑(List.length d)),(17,.int .i64 ↑i),(25,U.box 0 0),(26,U.box 0 3),(27,.lst .ro 5 (scsU (Bk.scenes b))),(28,.int .i64 ↑i),(29,U.eref [.int .i64 (Sc.part q),.int .i64 (Sc.wt q),.int .i64 (Sc.lo q),.int .i64 (Sc.hi q),U.bool (Sc.must q)] 0),(30,U.eref [.int .i64 (Sc.part q),.int .i64 (Sc.wt q),.int .i64 (Sc.lo q),.int .i64 (Sc.hi q),U.bool (Sc.must q)] 4),(31,U.bool (Sc.must q)),(32,U.bool !Sc.must q)] ([SB.box (Bk.cs b)]) (.c4 rfl rfl rfl rfl (.c4 rfl rfl rfl rfl (.c4 rfl rfl rfl rfl (.cons rfl (.cons rfl (.cons rfl (.nil rfl))))))) rfl fun fr=>?_
      refine kQ (zB rfl (yB rfl rfl (zB rfl (o_gD rfl rfl rfl rfl (by assumption) (zP rfl rfl rfl sh70 rfl (o_gD rfl rfl rfl rfl (by assumption) (zB rfl (o_gD rfl rfl rfl rfl (by assumption) ?_))))))))
      refine zB rfl (o_gD rfl rfl rfl rfl (by assumption) (zN rfl (q84) (.lrefl _) (o_gD rfl rfl rfl rfl (by assumption) (yB rfl rfl (zT rfl rfl (by assumption) ?_)))))
      refine zC (k_cT rfl rfl ?_)
      refine kQ (zA rfl (zC (zZ ?_)))
      refine⟨.inr rfl,_,.cons _ _ _ _ (.tmp 4) .nil,?_⟩
      exact .refl _
   ·rw[decide_eq_false h1,Bool.false_and,Bool.false_or]at hw
    cases hs:inS q.lo q.hi x with
    |true=>
     rw[hs]at hw q84
     have hw:z=dnF b (i+1) (d.drop (i+1)):=hw
     refine kQ (ze rfl rfl rfl (zC (k_seq (k_cT rfl (decide_eq_true (by omega)) (zU (k_seq (zQ (kQ ?_))))))))
     refine zB rfl (yG (u:=.int .i64 (x)) rfl ty22 rfl rfl (Int.natCast_nonneg _) (by simp[hx]) cl3 ?_)
     refine zV rfl rfl sh3 rfl ?_
     refine zA rfl (zA rfl (zC (kQ (zB rfl (wn rfl rfl rfl (zB rfl (o_gS rfl rfl rfl rfl (decide_eq_false (by omega)) ?_)))))))
     refine o_gS rfl rfl rfl rfl (decide_eq_false (by omega)) ?_
     refine o_gS rfl rfl rfl rfl (decide_eq_false (by omega)) ?_
     refine o_gS rfl rfl rfl rfl (decide_eq_false (by omega)) ?_
     refine o_gS rfl rfl rfl rfl (decide_eq_false (by omega)) ?_
     refine o_gS rfl rfl rfl rfl (decide_eq_false (by omega)) ?_
     refine zM [(2,U.box 0 0),(5,.int .i64 ↑i),(6,.int .i64 x),(15,.lst .ro 1 (zF d)),(16,.int .i64 ↑(List.length d)),(17,.int .i64 ↑i),(24,U.bool (decide (x=(-1:Int)))),(25,U.tup []),(26,U.tup []),(27,U.tup []),(28,U.tup []),(29,U.tup []),(30,U.tup [])] [] ([SB.box (Bk.cs b)]) (.c4 rfl rfl rfl rfl (.c4 rfl rfl rfl rfl (.c4 rfl rfl rfl rfl (.cons rfl (.nil rfl))))) rfl rfl fun fr=>?_
     refine o_gS rfl rfl rfl rfl (decide_eq_false (by omega)) ?_
     refine o_gS rfl rfl rfl rfl (decide_eq_false (by omega)) ?_
     refine zL rfl rfl (decide_eq_false (by omega)) ?_
     refine zA rfl (zC ?_)
     refine zK [(2,U.box 0 0),(5,.int .i64 ↑i),(6,.int .i64 x),(7,.bool false),(15,.lst .ro 1 (zF d)),(16,.int .i64 ↑(List.length d)),(17,.int .i64 ↑i),(25,U.tup []),(26,U.tup []),(27,U.tup []),(28,U.tup []),(29,U.tup []),(30,U.tup []),(31,U.tup []),(32,U.tup [])] ([SB.box (Bk.cs b)]) (.c4 rfl rfl rfl rfl (.c4 rfl rfl rfl rfl (.c4 rfl rfl rfl rfl (.cons rfl (.cons rfl (.cons rfl (.nil rfl))))))) rfl fun fr=>?_
     refine kQ (zB rfl (yB rfl rfl (zB rfl (o_gD rfl rfl rfl rfl rfl (zP rfl rfl rfl sh70 rfl (o_gD rfl rfl rfl rfl rfl (zB rfl (o_gD rfl rfl rfl rfl rfl ?_))))))))
     refine zB rfl (o_gD rfl rfl rfl rfl rfl (zN rfl (q84) (.lrefl _) (o_gD rfl rfl rfl rfl rfl (yB rfl rfl (zT rfl rfl rfl ?_)))))
     refine zC (k_cF rfl rfl ?_)
     refine zU (k_region ?_)
     refine yV rfl rfl rfl (by unfold I64;omega) (zB rfl (zC ?_))
     exact⟨kk - 1,by omega,i+1,by omega,hw,rfl,.c4 rfl rfl rfl rfl (.nil rfl)⟩
    |false=>
     rw[hs]at hw q84
     obtain rfl:z=false:=hw
     refine kQ (ze rfl rfl rfl (zC (k_seq (k_cT rfl (decide_eq_true (by omega)) (zU (k_seq (zQ (kQ ?_))))))))
     refine zB rfl (yG (u:=.int .i64 (x)) rfl ty22 rfl rfl (Int.natCast_nonneg _) (by simp[hx]) cl3 ?_)
     refine zV rfl rfl sh3 rfl ?_
     refine zA rfl (zA rfl (zC (kQ (zB rfl (wn rfl rfl rfl (zB rfl (o_gS rfl rfl rfl rfl (decide_eq_false (by omega)) ?_)))))))
     refine o_gS rfl rfl rfl rfl (decide_eq_false (by omega)) ?_
     refine o_gS rfl rfl rfl rfl (decide_eq_false (by omega)) ?_
     refine o_gS rfl rfl rfl rfl (decide_eq_false (by omega)) ?_
     refine o_gS rfl rfl rfl rfl (decide_eq_false (by omega)) ?_
     refine o_gS rfl rfl rfl rfl (decide_eq_false (by omega)) ?_
     refine zM [(2,U.box 0 0),(5,.int .i64 ↑i),(6,.int .i64 x),(15,.lst .ro 1 (zF d)),(16,.int .i64 ↑(List.length d)),(17,.int .i64 ↑i),(24,U.bool (decide (x=(-1:Int)))),(25,U.tup []),(26,U.tup []),(27,U.tup []),(28,U.tup []),(29,U.tup []),(30,U.tup [])] [] ([SB.box (Bk.cs b)]) (.c4 rfl rfl rfl rfl (.c4 rfl rfl rfl rfl (.c4 rfl rfl rfl rfl (.cons rfl (.nil rfl))))) rfl rfl fun fr=>?_
     refine o_gS rfl rfl rfl rfl (decide_eq_false (by omega)) ?_
     refine o_gS rfl rfl rfl rfl (decide_eq_false (by omega)) ?_
     refine zL rfl rfl (decide_eq_false (by omega)) ?_
     refine zA rfl (zC ?_)
     refine zK [(2,U.box 0 0),(5,.int .i64 ↑i),(6,.int .i64 x),(7,.bool false),(15,.lst .ro 1 (zF d)),(16,.int .i64 ↑(List.length d)),(17,.int .i64 ↑i),(25,U.tup []),(26,U.tup []),(27,U.tup []),(28,U.tup []),(29,U.tup []),(30,U.tup []),(31,U.tup []),(32,U.tup [])] ([SB.box (Bk.cs b)]) (.c4 rfl rfl rfl rfl (.c4 rfl rfl rfl rfl (.c4 rfl rfl rfl rfl (.cons rfl (.cons rfl (.cons rfl (.nil rfl))))))) rfl fun fr=>?_
     refine kQ (zB rfl (yB rfl rfl (zB rfl (o_gD rfl rfl rfl rfl rfl (zP rfl rfl rfl sh70 rfl (o_gD rfl rfl rfl rfl rfl (zB rfl (o_gD rfl rfl rfl rfl rfl ?_))))))))
     refine zB rfl (o_gD rfl rfl rfl rfl rfl (zN rfl (q84) (.lrefl _) (o_gD rfl rfl rfl rfl rfl (yB rfl rfl (zT rfl rfl rfl ?_)))))
     refine zC (k_cT rfl rfl ?_)
     refine kQ (zA rfl (zC (zZ ?_)))
     refine⟨.inr rfl,_,.cons _ _ _ _ (.tmp 4) .nil,?_⟩
     exact .refl _
  ·have hd:d.drop i=[]:=List.drop_eq_nil_of_le (by omega)
   rw[hd]at hw
   obtain rfl:z=true:=hw
   refine kQ (ze rfl rfl rfl (zC (k_seq (k_cF rfl (decide_eq_false (by omega)) (yf (kQ (zA rfl (zC ?_))))))))
   refine zZ ?_
   refine⟨.inr rfl,_,.cons _ _ _ _ (.tmp 4) .nil,?_⟩
   exact .refl _
 ·rw[decide_eq_false hl,Bool.false_and]
  refine kQ (yH rfl rfl (zA rfl (zC ?_)))
  refine zK [(1,.lst .ro 1 (zF d)),(2,U.box 0 0)] ([SB.box (Bk.cs b)]) (.cons rfl (.cons rfl (.nil rfl))) rfl fun fr=>?_
  refine k_seq (kQ (zB rfl (zp rfl ty22 rfl (List.length_map _) ?_)))
  refine zD rfl rfl wD (zD rfl rfl yd (zE rfl rfl rfl sh23 rfl (zp rfl ty23 rfl (List.length_map _) ?_)))
  refine zEq rfl rfl rfl (zC (k_cT rfl (decide_eq_true (by omega)) (kQ (zA rfl (zC (zZ ?_))))))
  refine⟨.inr rfl,_,.cons _ _ _ _ (.tmp 4) .nil,?_⟩
  exact .refl _
end Go.Proofs.YtlknfhjfkcboiaaDoor.night
