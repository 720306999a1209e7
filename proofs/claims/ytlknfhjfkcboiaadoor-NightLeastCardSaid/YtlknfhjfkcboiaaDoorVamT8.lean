import Derived.Test.YtlknfhjfkcboiaaDoorVamT7
set_option linter.unusedVariables false
set_option linter.unusedSimpArgs false
set_option linter.constructorNameAsVariable false
namespace Go.Proofs.YtlknfhjfkcboiaaDoor.nightLeast
open Vam
variable {is:FuncId→Bool}{orc:Known}
theorem ret84(hi:Off is){b:Bk}(h:BOk b){i:Nat}{q:Sc}(hq:b.scenes[i]? =some q)(x:Int):RetP Tryd.prog is orc 84 [b.u,.int .i64 i,.int .i64 x] (.bool (inS q.lo q.hi x)):=by
 refine yD body84 pure84 (hi 84 (by decide)) rfl rfl (zEb (zAb b 4) (.int _ _ _) (.int _ _ _)) (.inl (.bool _ _)) ?_
 have q80:=ret80 (orc:=orc) hi q.lo q.hi x
 have hil:=(List.getElem?_eq_some_iff.1 hq).1
 refine kQ (yI rfl rfl (zC rfl (zD ?_)))
 refine zN [(1,.int .i64 ↑i),(2,.int .i64 x),(3,U.box 0 0)] ([SB.box [.int .i64 (Bk.bg b),.lst .ro 1 (zA (Bk.opens b)),.lst .ro 1 (zA (Bk.ends b)),.lst .ro 5 (scsU (Bk.scenes b)),.int .i64 (Bk.fee b),.lst .ro 1 (zA (Bk.loads b)),.int .i64 (Bk.cart b),.int .i64 (Bk.cost b),.int .i64 (Bk.feast b),.lst .ro 1 (zA (Bk.shares b))]]) (.cons rfl (.cons rfl (.cons rfl (.nil rfl)))) rfl fun fr=>?_
 refine kQ (zE rfl rfl yi (zE rfl rfl zu (zF rfl rfl rfl sh23 rfl (zB rfl (zp (u:=(q).u) rfl ty23 rfl rfl (Int.natCast_nonneg _) (by simp[hq]) cl50 ?_)))))
 refine wC rfl rfl zAA ?_
 refine wR rfl rfl sh48 rfl ?_
 refine zB rfl (zL rfl (q80) (.lrefl _) (zC rfl (zD (zY ?_))))
 refine⟨.inr rfl,_,.cons _ _ _ _ (.tmp 6) .nil,?_⟩
 exact .refl _
def dnB(b:Bk)(i:Nat)(x:Int):Bool:=(decide (x= -1)&& !zBs b i)||(match b.scenes[i]? with|none=>false|some q=>inS q.lo q.hi x)
def dnF(b:Bk):Nat→List Int→Bool
 |_,[]=>true
 |i,x::l=>dnB b i x&&dnF b (i+1) l
def zEQ(b:Bk)(d:List Int):Bool:=decide (d.length≤b.scenes.length)&&dnF b 0 d
set_option maxHeartbeats 8000000 in
theorem ret62(hi:Off is){b:Bk}(h:BOk b)(d:List Int):RetP Tryd.prog is orc 62 [b.u,.lst .ro 1 (zA d)] (.bool (zEQ b d)):=by
 refine yD body62 pure62 (hi 62 (by decide)) rfl rfl (yb (zAb b 4) (zd 6 .ro (fun h=>by cases h) 1 d)) (.inl (.bool _ _)) ?_
 have hn:=h.sn
 unfold zEQ
 by_cases hl:d.length≤b.scenes.length
 ·rw[decide_eq_true hl,Bool.true_and]
  generalize hz:dnF b 0 d=z
  refine kQ (yI rfl rfl (zC rfl (zD ?_)))
  refine zN [(1,.lst .ro 1 (zA d)),(2,U.box 0 0)] ([SB.box [.int .i64 (Bk.bg b),.lst .ro 1 (zA (Bk.opens b)),.lst .ro 1 (zA (Bk.ends b)),.lst .ro 5 (scsU (Bk.scenes b)),.int .i64 (Bk.fee b),.lst .ro 1 (zA (Bk.loads b)),.int .i64 (Bk.cart b),.int .i64 (Bk.cost b),.int .i64 (Bk.feast b),.lst .ro 1 (zA (Bk.shares b))]]) (.cons rfl (.cons rfl (.nil rfl))) rfl fun fr=>?_
  refine k_seq (kQ (zB rfl (zb rfl ty22 rfl (List.length_map _) ?_)))
  refine zE rfl rfl yi (zE rfl rfl zu (zF rfl rfl rfl sh23 rfl (zb rfl ty23 rfl (List.length_map _) ?_)))
  refine o_gtr rfl rfl rfl (zD (k_cF rfl (decide_eq_false (by omega)) (zO (k_seq (kQ (zB rfl (zb rfl ty22 rfl (List.length_map _) ?_)))))))
  refine zB rfl (zD (zM ?_))
  refine ym (fun kk s2=>∃i:Nat,kk+i=d.length∧z=dnF b i (d.drop i)∧s2.st=[.box [.int .i64 b.bg,.lst .ro 1 (zA b.opens),.lst .ro 1 (zA b.ends),.lst .ro 5 (scsU b.scenes),.int .i64 b.fee,.lst .ro 1 (zA b.loads),.int .i64 b.cart,.int .i64 b.cost,.int .i64 b.feast,.lst .ro 1 (zA b.shares)]]∧Holds s2 [(2,.box 0 0),(15,.lst .ro 1 (zA d)),(16,.int .i64 d.length),(17,.int .i64 i)]) (fun kk s2 hI=>?_) d.length _ ⟨0,rfl,hz.symm,rfl,.c4 rfl rfl rfl rfl (.nil rfl)⟩
  obtain⟨i,hk,hw,hst2,hs2⟩:=hI
  clear hz
  refine zN _ _ hs2 hst2 fun fr2=>?_
  by_cases hin:i<d.length
  ·obtain⟨x,hx⟩:∃x,d[i]? =some x:=⟨d[i],List.getElem?_eq_getElem hin⟩
   rw[zBU hx]at hw
   have hw:z=(dnB b i x&&dnF b (i+1) (d.drop (i+1))):=hw
   obtain⟨q,hq⟩:∃q,b.scenes[i]? =some q:=⟨b.scenes[i],List.getElem?_eq_getElem (by omega)⟩
   have hm:zBs b i=q.must:=by unfold zBs;rw[hq];rfl
   have hdn:dnB b i x=((decide (x= -1)&& !q.must)||inS q.lo q.hi x):=by unfold dnB;rw[hq,hm]
   rw[hdn]at hw
   have q84:=ret84 (orc:=orc) hi h hq x
   by_cases h1:x= -1
   ·cases hqm:q.must with
    |false=>
     have k20:(!q.must)=true:=by rw[hqm];rfl
     have k21:(!!q.must)=false:=by rw[hqm];rfl
     rw[decide_eq_true h1,hqm]at hw
     have hw:z=dnF b (i+1) (d.drop (i+1)):=hw
     refine kQ (zX rfl rfl rfl (zD (k_seq (k_cT rfl (decide_eq_true (by omega)) (zO (k_seq (zM (kQ ?_))))))))
     refine zB rfl (zp (u:=.int .i64 (x)) rfl ty22 rfl rfl (Int.natCast_nonneg _) (by simp[hx]) cl3 ?_)
     refine zU rfl rfl sh3 rfl ?_
     refine zC rfl (zC rfl (zD (kQ (zB rfl (wZ rfl rfl rfl (zB rfl (o_gD rfl rfl rfl rfl (decide_eq_true (by omega)) ?_)))))))
     refine zE rfl rfl yi (o_gD rfl rfl rfl rfl (decide_eq_true (by omega)) ?_)
     refine zE rfl rfl zu (o_gD rfl rfl rfl rfl (decide_eq_true (by omega)) ?_)
     refine zF rfl rfl rfl sh23 rfl (o_gD rfl rfl rfl rfl (decide_eq_true (by omega)) ?_)
     refine zB rfl (o_gD rfl rfl rfl rfl (decide_eq_true (by omega)) ?_)
     refine zp (u:=(q).u) rfl ty23 rfl rfl (Int.natCast_nonneg _) (by simp[hq]) cl50 ?_
     refine o_gD rfl rfl rfl rfl (decide_eq_true (by omega)) ?_
     refine wC rfl rfl zAw ?_
     refine zI [(2,U.box 0 0),(5,.int .i64 ↑i),(6,.int .i64 x),(15,.lst .ro 1 (zA d)),(16,.int .i64 ↑(List.length d)),(17,.int .i64 ↑i),(24,U.bool (decide (x=(-1:Int)))),(25,U.box 0 0),(26,U.box 0 3),(27,.lst .ro 5 (scsU (Bk.scenes b))),(28,.int .i64 ↑i),(29,U.eref [.int .i64 (Sc.part q),.int .i64 (Sc.wt q),.int .i64 (Sc.lo q),.int .i64 (Sc.hi q),U.bool (Sc.must q)] 0),(30,U.eref [.int .i64 (Sc.part q),.int .i64 (Sc.wt q),.int .i64 (Sc.lo q),.int .i64 (Sc.hi q),U.bool (Sc.must q)] 4)] [] ([SB.box [.int .i64 (Bk.bg b),.lst .ro 1 (zA (Bk.opens b)),.lst .ro 1 (zA (Bk.ends b)),.lst .ro 5 (scsU (Bk.scenes b)),.int .i64 (Bk.fee b),.lst .ro 1 (zA (Bk.loads b)),.int .i64 (Bk.cart b),.int .i64 (Bk.cost b),.int .i64 (Bk.feast b),.lst .ro 1 (zA (Bk.shares b))]]) (.c4 rfl rfl rfl rfl (.c4 rfl rfl rfl rfl (.c4 rfl rfl rfl rfl (.cons rfl (.nil rfl))))) rfl rfl fun fr=>?_
     refine o_gD rfl rfl rfl rfl (decide_eq_true (by omega)) ?_
     refine zI [(2,U.box 0 0),(5,.int .i64 ↑i),(6,.int .i64 x),(15,.lst .ro 1 (zA d)),(16,.int .i64 ↑(List.length d)),(17,.int .i64 ↑i),(24,U.bool (decide (x=(-1:Int)))),(25,U.box 0 0),(26,U.box 0 3),(27,.lst .ro 5 (scsU (Bk.scenes b))),(28,.int .i64 ↑i),(29,U.eref [.int .i64 (Sc.part q),.int .i64 (Sc.wt q),.int .i64 (Sc.lo q),.int .i64 (Sc.hi q),U.bool (Sc.must q)] 0),(30,U.eref [.int .i64 (Sc.part q),.int .i64 (Sc.wt q),.int .i64 (Sc.lo q),.int .i64 (Sc.hi q),U.bool (Sc.must q)] 4)] [] ([SB.box [.int .i64 (Bk.bg b),.lst .ro 1 (zA (Bk.opens b)),.lst .ro 1 (zA (Bk.ends b)),.lst .ro 5 (scsU (Bk.scenes b)),.int .i64 (Bk.fee b),.lst .ro 1 (zA (Bk.loads b)),.int .i64 (Bk.cart b),.int .i64 (Bk.cost b),.int .i64 (Bk.feast b),.lst .ro 1 (zA (Bk.shares b))]]) (.c4 rfl rfl rfl rfl (.c4 rfl rfl rfl rfl (.c4 rfl rfl rfl rfl (.cons rfl (.nil rfl))))) rfl rfl fun fr=>?_
     refine zU rfl rfl sh4 rfl ?_
     refine o_gD rfl rfl rfl rfl (decide_eq_true (by omega)) ?_
     refine zt rfl rfl (zQ rfl rfl (decide_eq_true (by omega)) ?_)
     refine zC rfl (zD ?_)
     refine zN [(2,U.box 0 0),(5,.int .i64 ↑i),(6,.int .i64 x),(7,U.bool !Sc.must q),(15,.lst .ro 1 (zA d)),(16,.int .i64 ↑(List.length d)),(17,.int .i64 ↑i),(25,U.box 0 0),(26,U.box 0 3),(27,.lst .ro 5 (scsU (Bk.scenes b))),(28,.int .i64 ↑i),(29,U.eref [.int .i64 (Sc.part q),.int .i64 (Sc.wt q),.int .i64 (Sc.lo q),.int .i64 (Sc.hi q),U.bool (Sc.must q)] 0),(30,U.eref [.int .i64 (Sc.part q),.int .i64 (Sc.wt q),.int .i64 (Sc.lo q),.int .i64 (Sc.hi q),U.bool (Sc.must q)] 4),(31,U.bool (Sc.must q)),(32,U.bool !Sc.must q)] ([SB.box [.int .i64 (Bk.bg b),.lst .ro 1 (zA (Bk.opens b)),.lst .ro 1 (zA (Bk.ends b)),.lst .ro 5 (scsU (Bk.scenes b)),.int .i64 (Bk.fee b),.lst .ro 1 (zA (Bk.loads b)),.int .i64 (Bk.cart b),.int .i64 (Bk.cost b),.int .i64 (Bk.feast b),.lst .ro 1 (zA (Bk.shares b))]]) (.c4 rfl rfl rfl rfl (.c4 rfl rfl rfl rfl (.c4 rfl rfl rfl rfl (.cons rfl (.cons rfl (.cons rfl (.nil rfl))))))) rfl fun fr=>?_
     refine kQ (zB rfl (zt rfl rfl (zB rfl (o_gS rfl rfl rfl rfl (by assumption) (o_gS rfl rfl rfl rfl (by assumption) (o_gS rfl rfl rfl rfl (by assumption) (o_gS rfl rfl rfl rfl (by assumption) (o_gS rfl rfl rfl rfl (by assumption) ?_))))))))
     refine zJ rfl rfl (by assumption) ?_
     refine zD (k_cF rfl rfl ?_)
     refine zO (k_region ?_)
     refine yZ rfl rfl rfl (by unfold I64;omega) (zB rfl (zD ?_))
     exact⟨kk - 1,by omega,i+1,by omega,hw,rfl,.c4 rfl rfl rfl rfl (.nil rfl)⟩
    |true=>
     have k20:(!q.must)=false:=by rw[hqm];rfl
     have k21:(!!q.must)=true:=by rw[hqm];rfl
     rw[decide_eq_true h1,hqm]at hw
     have hw:z=(inS q.lo q.hi x&&dnF b (i+1) (d.drop (i+1))):=hw
     cases hs:inS q.lo q.hi x with
     |true=>
      rw[hs]at hw q84
      have hw:z=dnF b (i+1) (d.drop (i+1)):=hw
      refine kQ (zX rfl rfl rfl (zD (k_seq (k_cT rfl (decide_eq_true (by omega)) (zO (k_seq (zM (kQ ?_))))))))
      refine zB rfl (zp (u:=.int .i64 (x)) rfl ty22 rfl rfl (Int.natCast_nonneg _) (by simp[hx]) cl3 ?_)
      refine zU rfl rfl sh3 rfl ?_
      refine zC rfl (zC rfl (zD (kQ (zB rfl (wZ rfl rfl rfl (zB rfl (o_gD rfl rfl rfl rfl (decide_eq_true (by omega)) ?_)))))))
      refine zE rfl rfl yi (o_gD rfl rfl rfl rfl (decide_eq_true (by omega)) ?_)
      refine zE rfl rfl zu (o_gD rfl rfl rfl rfl (decide_eq_true (by omega)) ?_)
      refine zF rfl rfl rfl sh23 rfl (o_gD rfl rfl rfl rfl (decide_eq_true (by omega)) ?_)
      refine zB rfl (o_gD rfl rfl rfl rfl (decide_eq_true (by omega)) ?_)
      refine zp (u:=(q).u) rfl ty23 rfl rfl (Int.natCast_nonneg _) (by simp[hq]) cl50 ?_
      refine o_gD rfl rfl rfl rfl (decide_eq_true (by omega)) ?_
      refine wC rfl rfl zAw ?_
      refine zI [(2,U.box 0 0),(5,.int .i64 ↑i),(6,.int .i64 x),(15,.lst .ro 1 (zA d)),(16,.int .i64 ↑(List.length d)),(17,.int .i64 ↑i),(24,U.bool (decide (x=(-1:Int)))),(25,U.box 0 0),(26,U.box 0 3),(27,.lst .ro 5 (scsU (Bk.scenes b))),(28,.int .i64 ↑i),(29,U.eref [.int .i64 (Sc.part q),.int .i64 (Sc.wt q),.int .i64 (Sc.lo q),.int .i64 (Sc.hi q),U.bool (Sc.must q)] 0),(30,U.eref [.int .i64 (Sc.part q),.int .i64 (Sc.wt q),.int .i64 (Sc.lo q),.int .i64 (Sc.hi q),U.bool (Sc.must q)] 4)] [] ([SB.box [.int .i64 (Bk.bg b),.lst .ro 1 (zA (Bk.opens b)),.lst .ro 1 (zA (Bk.ends b)),.lst .ro 5 (scsU (Bk.scenes b)),.int .i64 (Bk.fee b),.lst .ro 1 (zA (Bk.loads b)),.int .i64 (Bk.cart b),.int .i64 (Bk.cost b),.int .i64 (Bk.feast b),.lst .ro 1 (zA (Bk.shares b))]]) (.c4 rfl rfl rfl rfl (.c4 rfl rfl rfl rfl (.c4 rfl rfl rfl rfl (.cons rfl (.nil rfl))))) rfl rfl fun fr=>?_
      refine o_gD rfl rfl rfl rfl (decide_eq_true (by omega)) ?_
      refine zI [(2,U.box 0 0),(5,.int .i64 ↑i),(6,.int .i64 x),(15,.lst .ro 1 (zA d)),(16,.int .i64 ↑(List.length d)),(17,.int .i64 ↑i),(24,U.bool (decide (x=(-1:Int)))),(25,U.box 0 0),(26,U.box 0 3),(27,.lst .ro 5 (scsU (Bk.scenes b))),(28,.int .i64 ↑i),(29,U.eref [.int .i64 (Sc.part q),.int .i64 (Sc.wt q),.int .i64 (Sc.lo q),.int .i64 (Sc.hi q),U.bool (Sc.must q)] 0),(30,U.eref [.int .i64 (Sc.part q),.int .i64 (Sc.wt q),.int .i64 (Sc.lo q),.int .i64 (Sc.hi q),U.bool (Sc.must q)] 4)] [] ([SB.box [.int .i64 (Bk.bg b),.lst .ro 1 (zA (Bk.opens b)),.lst .ro 1 (zA (Bk.ends b)),.lst .ro 5 (scsU (Bk.scenes b)),.int .i64 (Bk.fee b),.lst .ro 1 (zA (Bk.loads b)),.int .i64 (Bk.cart b),.int .i64 (Bk.cost b),.int .i64 (Bk.feast b),.lst .ro 1 (zA (Bk.shares b))]]) (.c4 rfl rfl rfl rfl (.c4 rfl rfl rfl rfl (.c4 rfl rfl rfl rfl (.cons rfl (.nil rfl))))) rfl rfl fun fr=>?_
      refine zU rfl rfl sh4 rfl ?_
      refine o_gD rfl rfl rfl rfl (decide_eq_true (by omega)) ?_
      refine zt rfl rfl (zQ rfl rfl (decide_eq_true (by omega)) ?_)
      refine zC rfl (zD ?_)
      refine zN [(2,U.box 0 0),(5,.int .i64 ↑i),(6,.int .i64 x),(7,U.bool !Sc.must q),(15,.lst .ro 1 (zA d)),(16,.int .i64 ↑(List.length d)),(17,.int .i64 ↑i),(25,U.box 0 0),(26,U.box 0 3),(27,.lst .ro 5 (scsU (Bk.scenes b))),(28,.int .i64 ↑i),(29,U.eref [.int .i64 (Sc.part q),.int .i64 (Sc.wt q),.int .i64 (Sc.lo q),.int .i64 (Sc.hi q),U.bool (Sc.must q)] 0),(30,U.eref [.int .i64 (Sc.part q),.int .i64 (Sc.wt q),.int .i64 (Sc.lo q),.int .i64 (Sc.hi q),U.bool (Sc.must q)] 4),(31,U.bool (Sc.must q)),(32,U.bool !Sc.must q)] ([SB.box [.int .i64 (Bk.bg b),.lst .ro 1 (zA (Bk.opens b)),.lst .ro 1 (zA (Bk.ends b)),.lst .ro 5 (scsU (Bk.scenes b)),.int .i64 (Bk.fee b),.lst .ro 1 (zA (Bk.loads b)),.int .i64 (Bk.cart b),.int .i64 (Bk.cost b),.int .i64 (Bk.feast b),.lst .ro 1 (zA (Bk.shares b))]]) (.c4 rfl rfl rfl rfl (.c4 rfl rfl rfl rfl (.c4 rfl rfl rfl rfl (.cons rfl (.cons rfl (.cons rfl (.nil rfl))))))) rfl fun fr=>?_
      refine kQ (zB rfl (zt rfl rfl (zB rfl (o_gD rfl rfl rfl rfl (by assumption) (zR rfl rfl rfl sh70 rfl (o_gD rfl rfl rfl rfl (by assumption) (zB rfl (o_gD rfl rfl rfl rfl (by assumption) ?_))))))))
      refine zB rfl (o_gD rfl rfl rfl rfl (by assumption) (zL rfl (q84) (.lrefl _) (o_gD rfl rfl rfl rfl (by assumption) (zt rfl rfl (zQ rfl rfl (by assumption) ?_)))))
      refine zD (k_cF rfl rfl ?_)
      refine zO (k_region ?_)
      refine yZ rfl rfl rfl (by unfold I64;omega) (zB rfl (zD ?_))
      exact⟨kk - 1,by omega,i+1,by omega,hw,rfl,.c4 rfl rfl rfl rfl (.nil rfl)⟩
     |false=>
      rw[hs]at hw q84
      obtain rfl:z=false:=hw
      refine kQ (zX rfl rfl rfl (zD (k_seq (k_cT rfl (decide_eq_true (by omega)) (zO (k_seq (zM (kQ ?_))))))))
      refine zB rfl (zp (u:=.int .i64 (x)) rfl ty22 rfl rfl (Int.natCast_nonneg _) (by simp[hx]) cl3 ?_)
      refine zU rfl rfl sh3 rfl ?_
      refine zC rfl (zC rfl (zD (kQ (zB rfl (wZ rfl rfl rfl (zB rfl (o_gD rfl rfl rfl rfl (decide_eq_true (by omega)) ?_)))))))
      refine zE rfl rfl yi (o_gD rfl rfl rfl rfl (decide_eq_true (by omega)) ?_)
      refine zE rfl rfl zu (o_gD rfl rfl rfl rfl (decide_eq_true (by omega)) ?_)
      refine zF rfl rfl rfl sh23 rfl (o_gD rfl rfl rfl rfl (decide_eq_true (by omega)) ?_)
      refine zB rfl (o_gD rfl rfl rfl rfl (decide_eq_true (by omega)) ?_)
      refine zp (u:=(q).u) rfl ty23 rfl rfl (Int.natCast_nonneg _) (by simp[hq]) cl50 ?_
      refine o_gD rfl rfl rfl rfl (decide_eq_true (by omega)) ?_
      refine wC rfl rfl zAw ?_
      refine zI [(2,U.box 0 0),(5,.int .i64 ↑i),(6,.int .i64 x),(15,.lst .ro 1 (zA d)),(16,.int .i64 ↑(List.length d)),(17,.int .i64 ↑i),(24,U.bool (decide (x=(-1:Int)))),(25,U.box 0 0),(26,U.box 0 3),(27,.lst .ro 5 (scsU (Bk.scenes b))),(28,.int .i64 ↑i),(29,U.eref [.int .i64 (Sc.part q),.int .i64 (Sc.wt q),.int .i64 (Sc.lo q),.int .i64 (Sc.hi q),U.bool (Sc.must q)] 0),(30,U.eref [.int .i64 (Sc.part q),.int .i64 (Sc.wt q),.int .i64 (Sc.lo q),.int .i64 (Sc.hi q),U.bool (Sc.must q)] 4)] [] ([SB.box [.int .i64 (Bk.bg b),.lst .ro 1 (zA (Bk.opens b)),.lst .ro 1 (zA (Bk.ends b)),.lst .ro 5 (scsU (Bk.scenes b)),.int .i64 (Bk.fee b),.lst .ro 1 (zA (Bk.loads b)),.int .i64 (Bk.cart b),.int .i64 (Bk.cost b),.int .i64 (Bk.feast b),.lst .ro 1 (zA (Bk.shares b))]]) (.c4 rfl rfl rfl rfl (.c4 rfl rfl rfl rfl (.c4 rfl rfl rfl rfl (.cons rfl (.nil rfl))))) rfl rfl fun fr=>?_
      refine o_gD rfl rfl rfl rfl (decide_eq_true (by omega)) ?_
      refine zI [(2,U.box 0 0),(5,.int .i64 ↑i),(6,.int .i64 x),(15,.lst .ro 1 (zA d)),(16,.int .i64 ↑(List.length d)),(17,.int .i64 ↑i),(24,U.bool (decide (x=(-1:Int)))),(25,U.box 0 0),(26,U.box 0 3),(27,.lst .ro 5 (scsU (Bk.scenes b))),(28,.int .i64 ↑i),(29,U.eref [.int .i64 (Sc.part q),.int .i64 (Sc.wt q),.int .i64 (Sc.lo q),.int .i64 (Sc.hi q),U.bool (Sc.must q)] 0),(30,U.eref [.int .i64 (Sc.part q),.int .i64 (Sc.wt q),.int .i64 (Sc.lo q),.int .i64 (Sc.hi q),U.bool (Sc.must q)] 4)] [] ([SB.box [.int .i64 (Bk.bg b),.lst .ro 1 (zA (Bk.opens b)),.lst .ro 1 (zA (Bk.ends b)),.lst .ro 5 (scsU (Bk.scenes b)),.int .i64 (Bk.fee b),.lst .ro 1 (zA (Bk.loads b)),.int .i64 (Bk.cart b),.int .i64 (Bk.cost b),.int .i64 (Bk.feast b),.lst .ro 1 (zA (Bk.shares b))]]) (.c4 rfl rfl rfl rfl (.c4 rfl rfl rfl rfl (.c4 rfl rfl rfl rfl (.cons rfl (.nil rfl))))) rfl rfl fun fr=>?_
      refine zU rfl rfl sh4 rfl ?_
      refine o_gD rfl rfl rfl rfl (decide_eq_true (by omega)) ?_
      refine zt rfl rfl (zQ rfl rfl (decide_eq_true (by omega)) ?_)
      refine zC rfl (zD ?_)
      refine zN [(2,U.box 0 0),(5,.int .i64 ↑i),(6,.int .i64 x),(7,U.bool !Sc.must q),(15,.lst .ro 1 (zA d)),(16,.int .i64 ↑(List.length d)),(17,.int .i64 ↑i),(25,U.box 0 0),(26,U.box 0 3),(27,.lst .ro 5 (scsU (Bk.scenes b))),(28,.int .i64 ↑i),(29,U.eref [.int .i64 (Sc.part q),.int .i64 (Sc.wt q),.int .i64 (Sc.lo q),.int .i64 (Sc.hi q),U.bool (Sc.must q)] 0),(30,U.eref [.int .i64 (Sc.part q),.int .i64 (Sc.wt q),.int .i64 (Sc.lo q),.int .i64 (Sc.hi q),U.bool (Sc.must q)] 4),(31,U.bool (Sc.must q)),(32,U.bool !Sc.must q)] ([SB.box [.int .i64 (Bk.bg b),.lst .ro 1 (zA (Bk.opens b)),.lst .ro 1 (zA (Bk.ends b)),.lst .ro 5 (scsU (Bk.scenes b)),.int .i64 (Bk.fee b),.lst .ro 1 (zA (Bk.loads b)),.int .i64 (Bk.cart b),.int .i64 (Bk.cost b),.int .i64 (Bk.feast b),.lst .ro 1 (zA (Bk.shares b))]]) (.c4 rfl rfl rfl rfl (.c4 rfl rfl rfl rfl (.c4 rfl rfl rfl rfl (.cons rfl (.cons rfl (.cons rfl (.nil rfl))))))) rfl fun fr=>?_
      refine kQ (zB rfl (zt rfl rfl (zB rfl (o_gD rfl rfl rfl rfl (by assumption) (zR rfl rfl rfl sh70 rfl (o_gD rfl rfl rfl rfl (by assumption) (zB rfl (o_gD rfl rfl rfl rfl (by assumption) ?_))))))))
      refine zB rfl (o_gD rfl rfl rfl rfl (by assumption) (zL rfl (q84) (.lrefl _) (o_gD rfl rfl rfl rfl (by assumption) (zt rfl rfl (zQ rfl rfl (by assumption) ?_)))))
      refine zD (k_cT rfl rfl ?_)
      refine kQ (zC rfl (zD (zY ?_)))
      refine⟨.inr rfl,_,.cons _ _ _ _ (.tmp 4) .nil,?_⟩
      exact .refl _
   ·rw[decide_eq_false h1,Bool.false_and,Bool.false_or]at hw
    cases hs:inS q.lo q.hi x with
    |true=>
     rw[hs]at hw q84
     have hw:z=dnF b (i+1) (d.drop (i+1)):=hw
     refine kQ (zX rfl rfl rfl (zD (k_seq (k_cT rfl (decide_eq_true (by omega)) (zO (k_seq (zM (kQ ?_))))))))
     refine zB rfl (zp (u:=.int .i64 (x)) rfl ty22 rfl rfl (Int.natCast_nonneg _) (by simp[hx]) cl3 ?_)
     refine zU rfl rfl sh3 rfl ?_
     refine zC rfl (zC rfl (zD (kQ (zB rfl (wZ rfl rfl rfl (zB rfl (o_gS rfl rfl rfl rfl (decide_eq_false (by omega)) ?_)))))))
     refine o_gS rfl rfl rfl rfl (decide_eq_false (by omega)) ?_
     refine o_gS rfl rfl rfl rfl (decide_eq_false (by omega)) ?_
     refine o_gS rfl rfl rfl rfl (decide_eq_false (by omega)) ?_
     refine o_gS rfl rfl rfl rfl (decide_eq_false (by omega)) ?_
     refine o_gS rfl rfl rfl rfl (decide_eq_false (by omega)) ?_
     refine zI [(2,U.box 0 0),(5,.int .i64 ↑i),(6,.int .i64 x),(15,.lst .ro 1 (zA d)),(16,.int .i64 ↑(List.length d)),(17,.int .i64 ↑i),(24,U.bool (decide (x=(-1:Int)))),(25,U.tup []),(26,U.tup []),(27,U.tup []),(28,U.tup []),(29,U.tup []),(30,U.tup [])] [] ([SB.box [.int .i64 (Bk.bg b),.lst .ro 1 (zA (Bk.opens b)),.lst .ro 1 (zA (Bk.ends b)),.lst .ro 5 (scsU (Bk.scenes b)),.int .i64 (Bk.fee b),.lst .ro 1 (zA (Bk.loads b)),.int .i64 (Bk.cart b),.int .i64 (Bk.cost b),.int .i64 (Bk.feast b),.lst .ro 1 (zA (Bk.shares b))]]) (.c4 rfl rfl rfl rfl (.c4 rfl rfl rfl rfl (.c4 rfl rfl rfl rfl (.cons rfl (.nil rfl))))) rfl rfl fun fr=>?_
     refine o_gS rfl rfl rfl rfl (decide_eq_false (by omega)) ?_
     refine o_gS rfl rfl rfl rfl (decide_eq_false (by omega)) ?_
     refine zJ rfl rfl (decide_eq_false (by omega)) ?_
     refine zC rfl (zD ?_)
     refine zN [(2,U.box 0 0),(5,.int .i64 ↑i),(6,.int .i64 x),(7,.bool false),(15,.lst .ro 1 (zA d)),(16,.int .i64 ↑(List.length d)),(17,.int .i64 ↑i),(25,U.tup []),(26,U.tup []),(27,U.tup []),(28,U.tup []),(29,U.tup []),(30,U.tup []),(31,U.tup []),(32,U.tup [])] ([SB.box [.int .i64 (Bk.bg b),.lst .ro 1 (zA (Bk.opens b)),.lst .ro 1 (zA (Bk.ends b)),.lst .ro 5 (scsU (Bk.scenes b)),.int .i64 (Bk.fee b),.lst .ro 1 (zA (Bk.loads b)),.int .i64 (Bk.cart b),.int .i64 (Bk.cost b),.int .i64 (Bk.feast b),.lst .ro 1 (zA (Bk.shares b))]]) (.c4 rfl rfl rfl rfl (.c4 rfl rfl rfl rfl (.c4 rfl rfl rfl rfl (.cons rfl (.cons rfl (.cons rfl (.nil rfl))))))) rfl fun fr=>?_
     refine kQ (zB rfl (zt rfl rfl (zB rfl (o_gD rfl rfl rfl rfl rfl (zR rfl rfl rfl sh70 rfl (o_gD rfl rfl rfl rfl rfl (zB rfl (o_gD rfl rfl rfl rfl rfl ?_))))))))
     refine zB rfl (o_gD rfl rfl rfl rfl rfl (zL rfl (q84) (.lrefl _) (o_gD rfl rfl rfl rfl rfl (zt rfl rfl (zQ rfl rfl rfl ?_)))))
     refine zD (k_cF rfl rfl ?_)
     refine zO (k_region ?_)
     refine yZ rfl rfl rfl (by unfold I64;omega) (zB rfl (zD ?_))
     exact⟨kk - 1,by omega,i+1,by omega,hw,rfl,.c4 rfl rfl rfl rfl (.nil rfl)⟩
    |false=>
     rw[hs]at hw q84
     obtain rfl:z=false:=hw
     refine kQ (zX rfl rfl rfl (zD (k_seq (k_cT rfl (decide_eq_true (by omega)) (zO (k_seq (zM (kQ ?_))))))))
     refine zB rfl (zp (u:=.int .i64 (x)) rfl ty22 rfl rfl (Int.natCast_nonneg _) (by simp[hx]) cl3 ?_)
     refine zU rfl rfl sh3 rfl ?_
     refine zC rfl (zC rfl (zD (kQ (zB rfl (wZ rfl rfl rfl (zB rfl (o_gS rfl rfl rfl rfl (decide_eq_false (by omega)) ?_)))))))
     refine o_gS rfl rfl rfl rfl (decide_eq_false (by omega)) ?_
     refine o_gS rfl rfl rfl rfl (decide_eq_false (by omega)) ?_
     refine o_gS rfl rfl rfl rfl (decide_eq_false (by omega)) ?_
     refine o_gS rfl rfl rfl rfl (decide_eq_false (by omega)) ?_
     refine o_gS rfl rfl rfl rfl (decide_eq_false (by omega)) ?_
     refine zI [(2,U.box 0 0),(5,.int .i64 ↑i),(6,.int .i64 x),(15,.lst .ro 1 (zA d)),(16,.int .i64 ↑(List.length d)),(17,.int .i64 ↑i),(24,U.bool (decide (x=(-1:Int)))),(25,U.tup []),(26,U.tup []),(27,U.tup []),(28,U.tup []),(29,U.tup []),(30,U.tup [])] [] ([SB.box [.int .i64 (Bk.bg b),.lst .ro 1 (zA (Bk.opens b)),.lst .ro 1 (zA (Bk.ends b)),.lst .ro 5 (scsU (Bk.scenes b)),.int .i64 (Bk.fee b),.lst .ro 1 (zA (Bk.loads b)),.int .i64 (Bk.cart b),.int .i64 (Bk.cost b),.int .i64 (Bk.feast b),.lst .ro 1 (zA (Bk.shares b))]]) (.c4 rfl rfl rfl rfl (.c4 rfl rfl rfl rfl (.c4 rfl rfl rfl rfl (.cons rfl (.nil rfl))))) rfl rfl fun fr=>?_
     refine o_gS rfl rfl rfl rfl (decide_eq_false (by omega)) ?_
     refine o_gS rfl rfl rfl rfl (decide_eq_false (by omega)) ?_
     refine zJ rfl rfl (decide_eq_false (by omega)) ?_
     refine zC rfl (zD ?_)
     refine zN [(2,U.box 0 0),(5,.int .i64 ↑i),(6,.int .i64 x),(7,.bool false),(15,.lst .ro 1 (zA d)),(16,.int .i64 ↑(List.length d)),(17,.int .i64 ↑i),(25,U.tup []),(26,U.tup []),(27,U.tup []),(28,U.tup []),(29,U.tup []),(30,U.tup []),(31,U.tup []),(32,U.tup [])] ([SB.box [.int .i64 (Bk.bg b),.lst .ro 1 (zA (Bk.opens b)),.lst .ro 1 (zA (Bk.ends b)),.lst .ro 5 (scsU (Bk.scenes b)),.int .i64 (Bk.fee b),.lst .ro 1 (zA (Bk.loads b)),.int .i64 (Bk.cart b),.int .i64 (Bk.cost b),.int .i64 (Bk.feast b),.lst .ro 1 (zA (Bk.shares b))]]) (.c4 rfl rfl rfl rfl (.c4 rfl rfl rfl rfl (.c4 rfl rfl rfl rfl (.cons rfl (.cons rfl (.cons rfl (.nil rfl))))))) rfl fun fr=>?_
     refine kQ (zB rfl (zt rfl rfl (zB rfl (o_gD rfl rfl rfl rfl rfl (zR rfl rfl rfl sh70 rfl (o_gD rfl rfl rfl rfl rfl (zB rfl (o_gD rfl rfl rfl rfl rfl ?_))))))))
     refine zB rfl (o_gD rfl rfl rfl rfl rfl (zL rfl (q84) (.lrefl _) (o_gD rfl rfl rfl rfl rfl (zt rfl rfl (zQ rfl rfl rfl ?_)))))
     refine zD (k_cT rfl rfl ?_)
     refine kQ (zC rfl (zD (zY ?_)))
     refine⟨.inr rfl,_,.cons _ _ _ _ (.tmp 4) .nil,?_⟩
     exact .refl _
  ·have hd:d.drop i=[]:=List.drop_eq_nil_of_le (by omega)
   rw[hd]at hw
   obtain rfl:z=true:=hw
   refine kQ (zX rfl rfl rfl (zD (k_seq (k_cF rfl (decide_eq_false (by omega)) (yV (kQ (zC rfl (zD ?_))))))))
   refine zY ?_
   refine⟨.inr rfl,_,.cons _ _ _ _ (.tmp 4) .nil,?_⟩
   exact .refl _
 ·rw[decide_eq_false hl,Bool.false_and]
  refine kQ (yI rfl rfl (zC rfl (zD ?_)))
  refine zN [(1,.lst .ro 1 (zA d)),(2,U.box 0 0)] ([SB.box [.int .i64 (Bk.bg b),.lst .ro 1 (zA (Bk.opens b)),.lst .ro 1 (zA (Bk.ends b)),.lst .ro 5 (scsU (Bk.scenes b)),.int .i64 (Bk.fee b),.lst .ro 1 (zA (Bk.loads b)),.int .i64 (Bk.cart b),.int .i64 (Bk.cost b),.int .i64 (Bk.feast b),.lst .ro 1 (zA (Bk.shares b))]]) (.cons rfl (.cons rfl (.nil rfl))) rfl fun fr=>?_
  refine k_seq (kQ (zB rfl (zb rfl ty22 rfl (List.length_map _) ?_)))
  refine zE rfl rfl yi (zE rfl rfl zu (zF rfl rfl rfl sh23 rfl (zb rfl ty23 rfl (List.length_map _) ?_)))
  refine o_gtr rfl rfl rfl (zD (k_cT rfl (decide_eq_true (by omega)) (kQ (zC rfl (zD (zY ?_))))))
  refine⟨.inr rfl,_,.cons _ _ _ _ (.tmp 4) .nil,?_⟩
  exact .refl _
def chF(b:Bk):Int→List Int→Bool
 |_,[]=>true
 |q,x::l=>decide (q<x)&&(decide (x<b.scenes.length)&&(!zBs b x.toNat&&chF b x l))
set_option maxHeartbeats 8000000 in
theorem ret78(hi:Off is){b:Bk}(h:BOk b)(L:List Int):RetP Tryd.prog is orc 78 [b.u,.lst .ro 1 (zA L)] (.bool (chF b (-1) L)):=by
 refine yD body78 pure78 (hi 78 (by decide)) rfl rfl (yb (zAb b 4) (zd 6 .ro (fun h=>by cases h) 1 L)) (.inl (.bool _ _)) ?_
 have hn:=h.sn
 generalize hz:chF b (-1) L=z
 refine kQ (yI rfl rfl (zC rfl (zD ?_)))
 refine zN [(1,.lst .ro 1 (zA L)),(2,U.box 0 0)] ([SB.box [.int .i64 (Bk.bg b),.lst .ro 1 (zA (Bk.opens b)),.lst .ro 1 (zA (Bk.ends b)),.lst .ro 5 (scsU (Bk.scenes b)),.int .i64 (Bk.fee b),.lst .ro 1 (zA (Bk.loads b)),.int .i64 (Bk.cart b),.int .i64 (Bk.cost b),.int .i64 (Bk.feast b),.lst .ro 1 (zA (Bk.shares b))]]) (.cons rfl (.cons rfl (.nil rfl))) rfl fun fr=>?_
 refine kQ (zC rfl (zD (k_seq (kQ (zB rfl (zb rfl ty83 rfl (List.length_map _) ?_))))))
 refine zB rfl (zD (zM ?_))
 refine ym (fun kk s2=>∃i:Nat,kk+i=L.length∧z=chF b (lstI L i) (L.drop i)∧(i:Int)≤lstI L i+1∧lstI L i<10∧s2.st=[.box [.int .i64 b.bg,.lst .ro 1 (zA b.opens),.lst .ro 1 (zA b.ends),.lst .ro 5 (scsU b.scenes),.int .i64 b.fee,.lst .ro 1 (zA b.loads),.int .i64 b.cart,.int .i64 b.cost,.int .i64 b.feast,.lst .ro 1 (zA b.shares)]]∧Holds s2 [(2,.box 0 0),(5,.int .i64 (lstI L i)),(8,.lst .ro 1 (zA L)),(9,.int .i64 L.length),(10,.int .i64 i)]) (fun kk s2 hI=>?_) L.length _ ⟨0,rfl,hz.symm,(by show(0:Int)≤ -1+1;omega),(by show(-1:Int)<10;omega),rfl,.c4 rfl rfl rfl rfl (.cons rfl (.nil rfl))⟩
 obtain⟨i,hk,hw,hb1,hb2,hst2,hs2⟩:=hI
 clear hz
 have hln:∀x,L[i]? =some x→lstI L (i+1)=x:=fun x hx=>by show(L[i]?).getD 0=x;rw[hx];rfl
 generalize lstI L i=p at*
 refine zN _ _ hs2 hst2 fun fr2=>?_
 by_cases hin:i<L.length
 ·obtain⟨x,hx⟩:∃x,L[i]? =some x:=⟨L[i],List.getElem?_eq_getElem hin⟩
  have hl2:=hln x hx
  rw[zBU hx]at hw
  have hw:z=(decide (p<x)&&(decide (x<b.scenes.length)&&(!zBs b x.toNat&&chF b x (L.drop (i+1))))):=hw
  by_cases c1:p<x
  ·rw[decide_eq_true c1,Bool.true_and]at hw
   by_cases c2:x<b.scenes.length
   ·rw[decide_eq_true c2,Bool.true_and]at hw
    obtain⟨q,hq⟩:∃q,b.scenes[x.toNat]? =some q:=⟨b.scenes[x.toNat],List.getElem?_eq_getElem (by omega)⟩
    have hm:zBs b x.toNat=q.must:=by unfold zBs;rw[hq];rfl
    rw[hm]at hw
    cases hqm:q.must with
    |true=>
     rw[hqm]at hw
     obtain rfl:z=false:=hw
     refine kQ (zX rfl rfl rfl (zD (k_seq (k_cT rfl (decide_eq_true (by omega)) (zO (k_seq (zM (kQ ?_))))))))
     refine zp (u:=.int .i64 (x)) rfl ty83 rfl rfl (Int.natCast_nonneg _) (by simp[hx]) cl3 ?_
     refine zU rfl rfl sh3 rfl ?_
     refine zC rfl (zD (k_seq (kQ (zB rfl (zB rfl (zCO rfl rfl rfl (zB rfl (o_gD rfl rfl rfl rfl (decide_eq_false (by omega)) ?_))))))))
     refine zB rfl (o_gD rfl rfl rfl rfl (decide_eq_false (by omega)) (zE rfl rfl yi (o_gD rfl rfl rfl rfl (decide_eq_false (by omega)) (zE rfl rfl zu (o_gD rfl rfl rfl rfl (decide_eq_false (by omega)) (zF rfl rfl rfl sh23 rfl (o_gD rfl rfl rfl rfl (decide_eq_false (by omega)) (zb rfl ty23 rfl (List.length_map _) ?_))))))))
     refine zI [(2,U.box 0 0),(7,.int .i64 x),(8,.lst .ro 1 (zA L)),(9,.int .i64 ↑(List.length L)),(10,.int .i64 ↑i),(17,U.bool (decide (x≤p))),(18,.int .i64 x),(19,U.box 0 0),(20,U.box 0 3),(21,.lst .ro 5 (scsU (Bk.scenes b))),(22,.int .i64 ↑(List.length (Bk.scenes b)))] [] ([SB.box [.int .i64 (Bk.bg b),.lst .ro 1 (zA (Bk.opens b)),.lst .ro 1 (zA (Bk.ends b)),.lst .ro 5 (scsU (Bk.scenes b)),.int .i64 (Bk.fee b),.lst .ro 1 (zA (Bk.loads b)),.int .i64 (Bk.cart b),.int .i64 (Bk.cost b),.int .i64 (Bk.feast b),.lst .ro 1 (zA (Bk.shares b))]]) (.c4 rfl rfl rfl rfl (.c4 rfl rfl rfl rfl (.cons rfl (.cons rfl (.cons rfl (.nil rfl)))))) rfl rfl fun fr=>?_
     refine o_gD rfl rfl rfl rfl (decide_eq_false (by omega)) ?_
     refine zI [(2,U.box 0 0),(7,.int .i64 x),(8,.lst .ro 1 (zA L)),(9,.int .i64 ↑(List.length L)),(10,.int .i64 ↑i),(17,U.bool (decide (x≤p))),(18,.int .i64 x),(19,U.box 0 0),(20,U.box 0 3),(21,.lst .ro 5 (scsU (Bk.scenes b))),(22,.int .i64 ↑(List.length (Bk.scenes b)))] [] ([SB.box [.int .i64 (Bk.bg b),.lst .ro 1 (zA (Bk.opens b)),.lst .ro 1 (zA (Bk.ends b)),.lst .ro 5 (scsU (Bk.scenes b)),.int .i64 (Bk.fee b),.lst .ro 1 (zA (Bk.loads b)),.int .i64 (Bk.cart b),.int .i64 (Bk.cost b),.int .i64 (Bk.feast b),.lst .ro 1 (zA (Bk.shares b))]]) (.c4 rfl rfl rfl rfl (.c4 rfl rfl rfl rfl (.cons rfl (.cons rfl (.cons rfl (.nil rfl)))))) rfl rfl fun fr=>?_
     refine o_geq rfl rfl rfl (zJ rfl rfl (decide_eq_false (by omega)) ?_)
     refine zB rfl (o_gD rfl rfl rfl rfl (decide_eq_false (by omega)) (zE rfl rfl yi (o_gD rfl rfl rfl rfl (decide_eq_false (by omega)) (zE rfl rfl zu (o_gD rfl rfl rfl rfl (decide_eq_false (by omega)) (zF rfl rfl rfl sh23 rfl (o_gD rfl rfl rfl rfl (decide_eq_false (by omega)) (zB rfl ?_))))))))
     refine o_gD rfl rfl rfl rfl (decide_eq_false (by omega)) (zp (u:=(q).u) rfl ty23 rfl rfl (by omega) (by simp[hq]) cl50 ?_)
     refine o_gD rfl rfl rfl rfl (decide_eq_false (by omega)) (wC rfl rfl zAw ?_)
     refine zI [(2,U.box 0 0),(7,.int .i64 x),(8,.lst .ro 1 (zA L)),(9,.int .i64 ↑(List.length L)),(10,.int .i64 ↑i),(18,.int .i64 x),(19,U.box 0 0),(20,U.box 0 3),(21,.lst .ro 5 (scsU (Bk.scenes b))),(22,.int .i64 ↑(List.length (Bk.scenes b))),(23,U.bool (decide (↑(List.length (Bk.scenes b))≤x))),(25,U.bool (decide (↑(List.length (Bk.scenes b))≤x))),(26,U.box 0 0),(27,U.box 0 3),(28,.lst .ro 5 (scsU (Bk.scenes b))),(29,.int .i64 x),(30,U.eref [.int .i64 (Sc.part q),.int .i64 (Sc.wt q),.int .i64 (Sc.lo q),.int .i64 (Sc.hi q),U.bool (Sc.must q)] 0),(31,U.eref [.int .i64 (Sc.part q),.int .i64 (Sc.wt q),.int .i64 (Sc.lo q),.int .i64 (Sc.hi q),U.bool (Sc.must q)] 4)] [] ([SB.box [.int .i64 (Bk.bg b),.lst .ro 1 (zA (Bk.opens b)),.lst .ro 1 (zA (Bk.ends b)),.lst .ro 5 (scsU (Bk.scenes b)),.int .i64 (Bk.fee b),.lst .ro 1 (zA (Bk.loads b)),.int .i64 (Bk.cart b),.int .i64 (Bk.cost b),.int .i64 (Bk.feast b),.lst .ro 1 (zA (Bk.shares b))]]) (.c4 rfl rfl rfl rfl (.c4 rfl rfl rfl rfl (.c4 rfl rfl rfl rfl (.c4 rfl rfl rfl rfl (.cons rfl (.cons rfl (.nil rfl))))))) rfl rfl fun fr=>?_
     refine o_gD rfl rfl rfl rfl (decide_eq_false (by omega)) ?_
     refine zI [(2,U.box 0 0),(7,.int .i64 x),(8,.lst .ro 1 (zA L)),(9,.int .i64 ↑(List.length L)),(10,.int .i64 ↑i),(18,.int .i64 x),(19,U.box 0 0),(20,U.box 0 3),(21,.lst .ro 5 (scsU (Bk.scenes b))),(22,.int .i64 ↑(List.length (Bk.scenes b))),(23,U.bool (decide (↑(List.length (Bk.scenes b))≤x))),(25,U.bool (decide (↑(List.length (Bk.scenes b))≤x))),(26,U.box 0 0),(27,U.box 0 3),(28,.lst .ro 5 (scsU (Bk.scenes b))),(29,.int .i64 x),(30,U.eref [.int .i64 (Sc.part q),.int .i64 (Sc.wt q),.int .i64 (Sc.lo q),.int .i64 (Sc.hi q),U.bool (Sc.must q)] 0),(31,U.eref [.int .i64 (Sc.part q),.int .i64 (Sc.wt q),.int .i64 (Sc.lo q),.int .i64 (Sc.hi q),U.bool (Sc.must q)] 4)] [] ([SB.box [.int .i64 (Bk.bg b),.lst .ro 1 (zA (Bk.opens b)),.lst .ro 1 (zA (Bk.ends b)),.lst .ro 5 (scsU (Bk.scenes b)),.int .i64 (Bk.fee b),.lst .ro 1 (zA (Bk.loads b)),.int .i64 (Bk.cart b),.int .i64 (Bk.cost b),.int .i64 (Bk.feast b),.lst .ro 1 (zA (Bk.shares b))]]) (.c4 rfl rfl rfl rfl (.c4 rfl rfl rfl rfl (.c4 rfl rfl rfl rfl (.c4 rfl rfl rfl rfl (.cons rfl (.cons rfl (.nil rfl))))))) rfl rfl fun fr=>?_
     refine zU rfl rfl sh4 rfl ?_
     refine zJ rfl rfl (decide_eq_false (by omega)) ?_
     refine zD ?_
     refine zN [(2,U.box 0 0),(7,.int .i64 x),(8,.lst .ro 1 (zA L)),(9,.int .i64 ↑(List.length L)),(10,.int .i64 ↑i),(18,.int .i64 x),(19,U.box 0 0),(20,U.box 0 3),(21,.lst .ro 5 (scsU (Bk.scenes b))),(22,.int .i64 ↑(List.length (Bk.scenes b))),(23,U.bool (decide (↑(List.length (Bk.scenes b))≤x))),(26,U.box 0 0),(27,U.box 0 3),(28,.lst .ro 5 (scsU (Bk.scenes b))),(29,.int .i64 x),(30,U.eref [.int .i64 (Sc.part q),.int .i64 (Sc.wt q),.int .i64 (Sc.lo q),.int .i64 (Sc.hi q),U.bool (Sc.must q)] 0),(31,U.eref [.int .i64 (Sc.part q),.int .i64 (Sc.wt q),.int .i64 (Sc.lo q),.int .i64 (Sc.hi q),U.bool (Sc.must q)] 4),(32,U.bool (Sc.must q)),(33,U.bool (Sc.must q))] ([SB.box [.int .i64 (Bk.bg b),.lst .ro 1 (zA (Bk.opens b)),.lst .ro 1 (zA (Bk.ends b)),.lst .ro 5 (scsU (Bk.scenes b)),.int .i64 (Bk.fee b),.lst .ro 1 (zA (Bk.loads b)),.int .i64 (Bk.cart b),.int .i64 (Bk.cost b),.int .i64 (Bk.feast b),.lst .ro 1 (zA (Bk.shares b))]]) (.c4 rfl rfl rfl rfl (.c4 rfl rfl rfl rfl (.c4 rfl rfl rfl rfl (.c4 rfl rfl rfl rfl (.cons rfl (.cons rfl (.cons rfl (.nil rfl)))))))) rfl fun fr=>?_
     refine k_cT rfl (by assumption) (kQ (zC rfl (zD (zY ?_))))
     refine⟨.inr rfl,_,.cons _ _ _ _ (.tmp 4) .nil,?_⟩
     exact .refl _
    |false=>
     rw[hqm]at hw
     have hw:z=chF b x (L.drop (i+1)):=hw
     refine kQ (zX rfl rfl rfl (zD (k_seq (k_cT rfl (decide_eq_true (by omega)) (zO (k_seq (zM (kQ ?_))))))))
     refine zp (u:=.int .i64 (x)) rfl ty83 rfl rfl (Int.natCast_nonneg _) (by simp[hx]) cl3 ?_
     refine zU rfl rfl sh3 rfl ?_
     refine zC rfl (zD (k_seq (kQ (zB rfl (zB rfl (zCO rfl rfl rfl (zB rfl (o_gD rfl rfl rfl rfl (decide_eq_false (by omega)) ?_))))))))
     refine zB rfl (o_gD rfl rfl rfl rfl (decide_eq_false (by omega)) (zE rfl rfl yi (o_gD rfl rfl rfl rfl (decide_eq_false (by omega)) (zE rfl rfl zu (o_gD rfl rfl rfl rfl (decide_eq_false (by omega)) (zF rfl rfl rfl sh23 rfl (o_gD rfl rfl rfl rfl (decide_eq_false (by omega)) (zb rfl ty23 rfl (List.length_map _) ?_))))))))
     refine zI [(2,U.box 0 0),(7,.int .i64 x),(8,.lst .ro 1 (zA L)),(9,.int .i64 ↑(List.length L)),(10,.int .i64 ↑i),(17,U.bool (decide (x≤p))),(18,.int .i64 x),(19,U.box 0 0),(20,U.box 0 3),(21,.lst .ro 5 (scsU (Bk.scenes b))),(22,.int .i64 ↑(List.length (Bk.scenes b)))] [] ([SB.box [.int .i64 (Bk.bg b),.lst .ro 1 (zA (Bk.opens b)),.lst .ro 1 (zA (Bk.ends b)),.lst .ro 5 (scsU (Bk.scenes b)),.int .i64 (Bk.fee b),.lst .ro 1 (zA (Bk.loads b)),.int .i64 (Bk.cart b),.int .i64 (Bk.cost b),.int .i64 (Bk.feast b),.lst .ro 1 (zA (Bk.shares b))]]) (.c4 rfl rfl rfl rfl (.c4 rfl rfl rfl rfl (.cons rfl (.cons rfl (.cons rfl (.nil rfl)))))) rfl rfl fun fr=>?_
     refine o_gD rfl rfl rfl rfl (decide_eq_false (by omega)) ?_
     refine zI [(2,U.box 0 0),(7,.int .i64 x),(8,.lst .ro 1 (zA L)),(9,.int .i64 ↑(List.length L)),(10,.int .i64 ↑i),(17,U.bool (decide (x≤p))),(18,.int .i64 x),(19,U.box 0 0),(20,U.box 0 3),(21,.lst .ro 5 (scsU (Bk.scenes b))),(22,.int .i64 ↑(List.length (Bk.scenes b)))] [] ([SB.box [.int .i64 (Bk.bg b),.lst .ro 1 (zA (Bk.opens b)),.lst .ro 1 (zA (Bk.ends b)),.lst .ro 5 (scsU (Bk.scenes b)),.int .i64 (Bk.fee b),.lst .ro 1 (zA (Bk.loads b)),.int .i64 (Bk.cart b),.int .i64 (Bk.cost b),.int .i64 (Bk.feast b),.lst .ro 1 (zA (Bk.shares b))]]) (.c4 rfl rfl rfl rfl (.c4 rfl rfl rfl rfl (.cons rfl (.cons rfl (.cons rfl (.nil rfl)))))) rfl rfl fun fr=>?_
     refine o_geq rfl rfl rfl (zJ rfl rfl (decide_eq_false (by omega)) ?_)
     refine zB rfl (o_gD rfl rfl rfl rfl (decide_eq_false (by omega)) (zE rfl rfl yi (o_gD rfl rfl rfl rfl (decide_eq_false (by omega)) (zE rfl rfl zu (o_gD rfl rfl rfl rfl (decide_eq_false (by omega)) (zF rfl rfl rfl sh23 rfl (o_gD rfl rfl rfl rfl (decide_eq_false (by omega)) (zB rfl ?_))))))))
     refine o_gD rfl rfl rfl rfl (decide_eq_false (by omega)) (zp (u:=(q).u) rfl ty23 rfl rfl (by omega) (by simp[hq]) cl50 ?_)
     refine o_gD rfl rfl rfl rfl (decide_eq_false (by omega)) (wC rfl rfl zAw ?_)
     refine zI [(2,U.box 0 0),(7,.int .i64 x),(8,.lst .ro 1 (zA L)),(9,.int .i64 ↑(List.length L)),(10,.int .i64 ↑i),(18,.int .i64 x),(19,U.box 0 0),(20,U.box 0 3),(21,.lst .ro 5 (scsU (Bk.scenes b))),(22,.int .i64 ↑(List.length (Bk.scenes b))),(23,U.bool (decide (↑(List.length (Bk.scenes b))≤x))),(25,U.bool (decide (↑(List.length (Bk.scenes b))≤x))),(26,U.box 0 0),(27,U.box 0 3),(28,.lst .ro 5 (scsU (Bk.scenes b))),(29,.int .i64 x),(30,U.eref [.int .i64 (Sc.part q),.int .i64 (Sc.wt q),.int .i64 (Sc.lo q),.int .i64 (Sc.hi q),U.bool (Sc.must q)] 0),(31,U.eref [.int .i64 (Sc.part q),.int .i64 (Sc.wt q),.int .i64 (Sc.lo q),.int .i64 (Sc.hi q),U.bool (Sc.must q)] 4)] [] ([SB.box [.int .i64 (Bk.bg b),.lst .ro 1 (zA (Bk.opens b)),.lst .ro 1 (zA (Bk.ends b)),.lst .ro 5 (scsU (Bk.scenes b)),.int .i64 (Bk.fee b),.lst .ro 1 (zA (Bk.loads b)),.int .i64 (Bk.cart b),.int .i64 (Bk.cost b),.int .i64 (Bk.feast b),.lst .ro 1 (zA (Bk.shares b))]]) (.c4 rfl rfl rfl rfl (.c4 rfl rfl rfl rfl (.c4 rfl rfl rfl rfl (.c4 rfl rfl rfl rfl (.cons rfl (.cons rfl (.nil rfl))))))) rfl rfl fun fr=>?_
     refine o_gD rfl rfl rfl rfl (decide_eq_false (by omega)) ?_
     refine zI [(2,U.box 0 0),(7,.int .i64 x),(8,.lst .ro 1 (zA L)),(9,.int .i64 ↑(List.length L)),(10,.int .i64 ↑i),(18,.int .i64 x),(19,U.box 0 0),(20,U.box 0 3),(21,.lst .ro 5 (scsU (Bk.scenes b))),(22,.int .i64 ↑(List.length (Bk.scenes b))),(23,U.bool (decide (↑(List.length (Bk.scenes b))≤x))),(25,U.bool (decide (↑(List.length (Bk.scenes b))≤x))),(26,U.box 0 0),(27,U.box 0 3),(28,.lst .ro 5 (scsU (Bk.scenes b))),(29,.int .i64 x),(30,U.eref [.int .i64 (Sc.part q),.int .i64 (Sc.wt q),.int .i64 (Sc.lo q),.int .i64 (Sc.hi q),U.bool (Sc.must q)] 0),(31,U.eref [.int .i64 (Sc.part q),.int .i64 (Sc.wt q),.int .i64 (Sc.lo q),.int .i64 (Sc.hi q),U.bool (Sc.must q)] 4)] [] ([SB.box [.int .i64 (Bk.bg b),.lst .ro 1 (zA (Bk.opens b)),.lst .ro 1 (zA (Bk.ends b)),.lst .ro 5 (scsU (Bk.scenes b)),.int .i64 (Bk.fee b),.lst .ro 1 (zA (Bk.loads b)),.int .i64 (Bk.cart b),.int .i64 (Bk.cost b),.int .i64 (Bk.feast b),.lst .ro 1 (zA (Bk.shares b))]]) (.c4 rfl rfl rfl rfl (.c4 rfl rfl rfl rfl (.c4 rfl rfl rfl rfl (.c4 rfl rfl rfl rfl (.cons rfl (.cons rfl (.nil rfl))))))) rfl rfl fun fr=>?_
     refine zU rfl rfl sh4 rfl ?_
     refine zJ rfl rfl (decide_eq_false (by omega)) ?_
     refine zD ?_
     refine zN [(2,U.box 0 0),(7,.int .i64 x),(8,.lst .ro 1 (zA L)),(9,.int .i64 ↑(List.length L)),(10,.int .i64 ↑i),(18,.int .i64 x),(19,U.box 0 0),(20,U.box 0 3),(21,.lst .ro 5 (scsU (Bk.scenes b))),(22,.int .i64 ↑(List.length (Bk.scenes b))),(23,U.bool (decide (↑(List.length (Bk.scenes b))≤x))),(26,U.box 0 0),(27,U.box 0 3),(28,.lst .ro 5 (scsU (Bk.scenes b))),(29,.int .i64 x),(30,U.eref [.int .i64 (Sc.part q),.int .i64 (Sc.wt q),.int .i64 (Sc.lo q),.int .i64 (Sc.hi q),U.bool (Sc.must q)] 0),(31,U.eref [.int .i64 (Sc.part q),.int .i64 (Sc.wt q),.int .i64 (Sc.lo q),.int .i64 (Sc.hi q),U.bool (Sc.must q)] 4),(32,U.bool (Sc.must q)),(33,U.bool (Sc.must q))] ([SB.box [.int .i64 (Bk.bg b),.lst .ro 1 (zA (Bk.opens b)),.lst .ro 1 (zA (Bk.ends b)),.lst .ro 5 (scsU (Bk.scenes b)),.int .i64 (Bk.fee b),.lst .ro 1 (zA (Bk.loads b)),.int .i64 (Bk.cart b),.int .i64 (Bk.cost b),.int .i64 (Bk.feast b),.lst .ro 1 (zA (Bk.shares b))]]) (.c4 rfl rfl rfl rfl (.c4 rfl rfl rfl rfl (.c4 rfl rfl rfl rfl (.c4 rfl rfl rfl rfl (.cons rfl (.cons rfl (.cons rfl (.nil rfl)))))))) rfl fun fr=>?_
     refine k_cF rfl (by assumption) (zO (k_region (zB rfl (zC rfl (zD (k_region ?_))))))
     refine yZ rfl rfl rfl (by unfold I64;omega) (zB rfl (zD ?_))
     exact⟨kk - 1,by omega,i+1,by omega,by rw[hl2];exact hw,by omega,by omega,rfl,.cons rfl (.cons (by rw[hl2];rfl) (.cons rfl (.cons rfl (.cons rfl (.nil rfl)))))⟩
   ·rw[decide_eq_false c2,Bool.false_and]at hw
    obtain rfl:z=false:=hw
    refine kQ (zX rfl rfl rfl (zD (k_seq (k_cT rfl (decide_eq_true (by omega)) (zO (k_seq (zM (kQ ?_))))))))
    refine zp (u:=.int .i64 (x)) rfl ty83 rfl rfl (Int.natCast_nonneg _) (by simp[hx]) cl3 ?_
    refine zU rfl rfl sh3 rfl ?_
    refine zC rfl (zD (k_seq (kQ (zB rfl (zB rfl (zCO rfl rfl rfl (zB rfl (o_gD rfl rfl rfl rfl (decide_eq_false (by omega)) ?_))))))))
    refine zB rfl (o_gD rfl rfl rfl rfl (decide_eq_false (by omega)) (zE rfl rfl yi (o_gD rfl rfl rfl rfl (decide_eq_false (by omega)) (zE rfl rfl zu (o_gD rfl rfl rfl rfl (decide_eq_false (by omega)) (zF rfl rfl rfl sh23 rfl (o_gD rfl rfl rfl rfl (decide_eq_false (by omega)) (zb rfl ty23 rfl (List.length_map _) ?_))))))))
    refine zI [(2,U.box 0 0),(7,.int .i64 x),(8,.lst .ro 1 (zA L)),(9,.int .i64 ↑(List.length L)),(10,.int .i64 ↑i),(17,U.bool (decide (x≤p))),(18,.int .i64 x),(19,U.box 0 0),(20,U.box 0 3),(21,.lst .ro 5 (scsU (Bk.scenes b))),(22,.int .i64 ↑(List.length (Bk.scenes b)))] [] ([SB.box [.int .i64 (Bk.bg b),.lst .ro 1 (zA (Bk.opens b)),.lst .ro 1 (zA (Bk.ends b)),.lst .ro 5 (scsU (Bk.scenes b)),.int .i64 (Bk.fee b),.lst .ro 1 (zA (Bk.loads b)),.int .i64 (Bk.cart b),.int .i64 (Bk.cost b),.int .i64 (Bk.feast b),.lst .ro 1 (zA (Bk.shares b))]]) (.c4 rfl rfl rfl rfl (.c4 rfl rfl rfl rfl (.cons rfl (.cons rfl (.cons rfl (.nil rfl)))))) rfl rfl fun fr=>?_
    refine o_gD rfl rfl rfl rfl (decide_eq_false (by omega)) ?_
    refine zI [(2,U.box 0 0),(7,.int .i64 x),(8,.lst .ro 1 (zA L)),(9,.int .i64 ↑(List.length L)),(10,.int .i64 ↑i),(17,U.bool (decide (x≤p))),(18,.int .i64 x),(19,U.box 0 0),(20,U.box 0 3),(21,.lst .ro 5 (scsU (Bk.scenes b))),(22,.int .i64 ↑(List.length (Bk.scenes b)))] [] ([SB.box [.int .i64 (Bk.bg b),.lst .ro 1 (zA (Bk.opens b)),.lst .ro 1 (zA (Bk.ends b)),.lst .ro 5 (scsU (Bk.scenes b)),.int .i64 (Bk.fee b),.lst .ro 1 (zA (Bk.loads b)),.int .i64 (Bk.cart b),.int .i64 (Bk.cost b),.int .i64 (Bk.feast b),.lst .ro 1 (zA (Bk.shares b))]]) (.c4 rfl rfl rfl rfl (.c4 rfl rfl rfl rfl (.cons rfl (.cons rfl (.cons rfl (.nil rfl)))))) rfl rfl fun fr=>?_
    refine o_geq rfl rfl rfl (zJ rfl rfl (decide_eq_false (by omega)) ?_)
    refine zB rfl (o_gS rfl rfl rfl rfl (decide_eq_true (by omega)) (o_gS rfl rfl rfl rfl (decide_eq_true (by omega)) (o_gS rfl rfl rfl rfl (decide_eq_true (by omega)) (o_gS rfl rfl rfl rfl (decide_eq_true (by omega)) (o_gS rfl rfl rfl rfl (decide_eq_true (by omega)) (o_gS rfl rfl rfl rfl (decide_eq_true (by omega)) ?_))))))
    refine zI [(2,U.box 0 0),(7,.int .i64 x),(8,.lst .ro 1 (zA L)),(9,.int .i64 ↑(List.length L)),(10,.int .i64 ↑i),(18,.int .i64 x),(19,U.box 0 0),(20,U.box 0 3),(21,.lst .ro 5 (scsU (Bk.scenes b))),(22,.int .i64 ↑(List.length (Bk.scenes b))),(23,U.bool (decide (↑(List.length (Bk.scenes b))≤x))),(25,U.bool (decide (↑(List.length (Bk.scenes b))≤x))),(26,U.tup []),(27,U.tup []),(28,U.tup []),(29,U.tup []),(30,U.tup []),(31,U.tup [])] [] ([SB.box [.int .i64 (Bk.bg b),.lst .ro 1 (zA (Bk.opens b)),.lst .ro 1 (zA (Bk.ends b)),.lst .ro 5 (scsU (Bk.scenes b)),.int .i64 (Bk.fee b),.lst .ro 1 (zA (Bk.loads b)),.int .i64 (Bk.cart b),.int .i64 (Bk.cost b),.int .i64 (Bk.feast b),.lst .ro 1 (zA (Bk.shares b))]]) (.c4 rfl rfl rfl rfl (.c4 rfl rfl rfl rfl (.c4 rfl rfl rfl rfl (.c4 rfl rfl rfl rfl (.cons rfl (.cons rfl (.nil rfl))))))) rfl rfl fun fr=>?_
    refine o_gS rfl rfl rfl rfl (decide_eq_true (by omega)) (zQ rfl rfl (decide_eq_true (by omega)) ?_)
    refine zD ?_
    refine zN [(2,U.box 0 0),(7,.int .i64 x),(8,.lst .ro 1 (zA L)),(9,.int .i64 ↑(List.length L)),(10,.int .i64 ↑i),(18,.int .i64 x),(19,U.box 0 0),(20,U.box 0 3),(21,.lst .ro 5 (scsU (Bk.scenes b))),(22,.int .i64 ↑(List.length (Bk.scenes b))),(23,U.bool (decide (↑(List.length (Bk.scenes b))≤x))),(26,U.tup []),(27,U.tup []),(28,U.tup []),(29,U.tup []),(30,U.tup []),(31,U.tup []),(32,U.tup []),(33,.bool true)] ([SB.box [.int .i64 (Bk.bg b),.lst .ro 1 (zA (Bk.opens b)),.lst .ro 1 (zA (Bk.ends b)),.lst .ro 5 (scsU (Bk.scenes b)),.int .i64 (Bk.fee b),.lst .ro 1 (zA (Bk.loads b)),.int .i64 (Bk.cart b),.int .i64 (Bk.cost b),.int .i64 (Bk.feast b),.lst .ro 1 (zA (Bk.shares b))]]) (.c4 rfl rfl rfl rfl (.c4 rfl rfl rfl rfl (.c4 rfl rfl rfl rfl (.c4 rfl rfl rfl rfl (.cons rfl (.cons rfl (.cons rfl (.nil rfl)))))))) rfl fun fr=>?_
    refine k_cT rfl rfl ?_
    refine kQ (zC rfl (zD (zY ?_)))
    refine⟨.inr rfl,_,.cons _ _ _ _ (.tmp 4) .nil,?_⟩
    exact .refl _
  ·rw[decide_eq_false c1,Bool.false_and]at hw
   obtain rfl:z=false:=hw
   refine kQ (zX rfl rfl rfl (zD (k_seq (k_cT rfl (decide_eq_true (by omega)) (zO (k_seq (zM (kQ ?_))))))))
   refine zp (u:=.int .i64 (x)) rfl ty83 rfl rfl (Int.natCast_nonneg _) (by simp[hx]) cl3 ?_
   refine zU rfl rfl sh3 rfl ?_
   refine zC rfl (zD (k_seq (kQ (zB rfl (zB rfl (zCO rfl rfl rfl (zB rfl (o_gS rfl rfl rfl rfl (decide_eq_true (by omega)) ?_))))))))
   refine o_gS rfl rfl rfl rfl (decide_eq_true (by omega)) (o_gS rfl rfl rfl rfl (decide_eq_true (by omega)) (o_gS rfl rfl rfl rfl (decide_eq_true (by omega)) (o_gS rfl rfl rfl rfl (decide_eq_true (by omega)) ?_)))
   refine zI [(2,U.box 0 0),(7,.int .i64 x),(8,.lst .ro 1 (zA L)),(9,.int .i64 ↑(List.length L)),(10,.int .i64 ↑i),(17,U.bool (decide (x≤p))),(18,U.tup []),(19,U.tup []),(20,U.tup []),(21,U.tup []),(22,U.tup [])] [] ([SB.box [.int .i64 (Bk.bg b),.lst .ro 1 (zA (Bk.opens b)),.lst .ro 1 (zA (Bk.ends b)),.lst .ro 5 (scsU (Bk.scenes b)),.int .i64 (Bk.fee b),.lst .ro 1 (zA (Bk.loads b)),.int .i64 (Bk.cart b),.int .i64 (Bk.cost b),.int .i64 (Bk.feast b),.lst .ro 1 (zA (Bk.shares b))]]) (.c4 rfl rfl rfl rfl (.c4 rfl rfl rfl rfl (.cons rfl (.cons rfl (.cons rfl (.nil rfl)))))) rfl rfl fun fr=>?_
   refine o_gS rfl rfl rfl rfl (decide_eq_true (by omega)) (zQ rfl rfl (decide_eq_true (by omega)) ?_)
   refine zB rfl (o_gS rfl rfl rfl rfl rfl (o_gS rfl rfl rfl rfl rfl (o_gS rfl rfl rfl rfl rfl (o_gS rfl rfl rfl rfl rfl (o_gS rfl rfl rfl rfl rfl (o_gS rfl rfl rfl rfl rfl ?_))))))
   refine zI [(2,U.box 0 0),(7,.int .i64 x),(8,.lst .ro 1 (zA L)),(9,.int .i64 ↑(List.length L)),(10,.int .i64 ↑i),(18,U.tup []),(19,U.tup []),(20,U.tup []),(21,U.tup []),(22,U.tup []),(23,U.tup []),(25,.bool true),(26,U.tup []),(27,U.tup []),(28,U.tup []),(29,U.tup []),(30,U.tup []),(31,U.tup [])] [] ([SB.box [.int .i64 (Bk.bg b),.lst .ro 1 (zA (Bk.opens b)),.lst .ro 1 (zA (Bk.ends b)),.lst .ro 5 (scsU (Bk.scenes b)),.int .i64 (Bk.fee b),.lst .ro 1 (zA (Bk.loads b)),.int .i64 (Bk.cart b),.int .i64 (Bk.cost b),.int .i64 (Bk.feast b),.lst .ro 1 (zA (Bk.shares b))]]) (.c4 rfl rfl rfl rfl (.c4 rfl rfl rfl rfl (.c4 rfl rfl rfl rfl (.c4 rfl rfl rfl rfl (.cons rfl (.cons rfl (.nil rfl))))))) rfl rfl fun fr=>?_
   refine o_gS rfl rfl rfl rfl rfl (zQ rfl rfl rfl ?_)
   refine zD ?_
   refine zN [(2,U.box 0 0),(7,.int .i64 x),(8,.lst .ro 1 (zA L)),(9,.int .i64 ↑(List.length L)),(10,.int .i64 ↑i),(18,U.tup []),(19,U.tup []),(20,U.tup []),(21,U.tup []),(22,U.tup []),(23,U.tup []),(26,U.tup []),(27,U.tup []),(28,U.tup []),(29,U.tup []),(30,U.tup []),(31,U.tup []),(32,U.tup []),(33,.bool true)] ([SB.box [.int .i64 (Bk.bg b),.lst .ro 1 (zA (Bk.opens b)),.lst .ro 1 (zA (Bk.ends b)),.lst .ro 5 (scsU (Bk.scenes b)),.int .i64 (Bk.fee b),.lst .ro 1 (zA (Bk.loads b)),.int .i64 (Bk.cart b),.int .i64 (Bk.cost b),.int .i64 (Bk.feast b),.lst .ro 1 (zA (Bk.shares b))]]) (.c4 rfl rfl rfl rfl (.c4 rfl rfl rfl rfl (.c4 rfl rfl rfl rfl (.c4 rfl rfl rfl rfl (.cons rfl (.cons rfl (.cons rfl (.nil rfl)))))))) rfl fun fr=>?_
   refine k_cT rfl rfl ?_
   refine kQ (zC rfl (zD (zY ?_)))
   refine⟨.inr rfl,_,.cons _ _ _ _ (.tmp 4) .nil,?_⟩
   exact .refl _
 ·have hd:L.drop i=[]:=List.drop_eq_nil_of_le (by omega)
  rw[hd]at hw
  obtain rfl:z=true:=hw
  refine kQ (zX rfl rfl rfl (zD (k_seq (k_cF rfl (decide_eq_false (by omega)) (yV (kQ (zC rfl (zD ?_))))))))
  refine zY ?_
  refine⟨.inr rfl,_,.cons _ _ _ _ (.tmp 4) .nil,?_⟩
  exact .refl _
end Go.Proofs.YtlknfhjfkcboiaaDoor.nightLeast
