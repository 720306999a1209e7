import Derived.Test.YtfbmlibilcjlgaaDoorVamT8
set_option linter.unusedVariables false
set_option linter.unusedSimpArgs false
set_option linter.constructorNameAsVariable false
namespace Go.Proofs.YtfbmlibilcjlgaaDoor.drumEnds
open Vam
variable {is:FuncId→Bool}{orc:Known}
theorem by24:Program.bytesOf Tryd.prog 24=16:=by kernel_rfl
theorem by68:Program.bytesOf Tryd.prog 68=40:=by kernel_rfl
theorem pl68:zFK Tryd.prog 68=some [(0,2),(2,1)]:=by kernel_rfl
theorem ze27:yQ Tryd.prog 27=some ((.cons (.int .i64 0) (.cons (.int .i64 0) (.cons .nils (.cons (.int .i64 0) (.cons (.int .i64 0) (.cons (.int .i64 0) (.cons (.int .i64 0) (.cons (.int .i64 0) (.cons (.int .i64 0) (.cons (.int .i64 0) (.cons .nils .nil))))))))))):V):=by kernel_rfl
theorem ap25_25:AppT Tryd.prog 25 25 68 3 40 ((.cons (.int .i64 0) (.cons (.int .i64 0) (.cons .nils .nil))):V):=⟨ty25,⟨_,ty25⟩,cl68,by decide,by68,ze68,rfl⟩
theorem ap66_66:AppT Tryd.prog 66 66 24 2 16 ((.cons (.int .i64 0) (.cons (.int .i64 0) .nil)):V):=⟨ty66,⟨_,ty66⟩,cl24,by decide,by24,ze24,rfl⟩
noncomputable def b47:Code:=(Tryd.f47.body).getD .skip
theorem body47:bodyOf Tryd.prog 47=some (104,b47,[.cell 4 27]):=by kernel_rfl
theorem pure47:pureFn Tryd.prog 47=true:=by kernel_rfl
def edgC(w:Bool)(c:Two):Two:=⟨endI (!w) c,endI (!w) c⟩
def edgP(w:Bool)(p:Pl):Pl:=⟨endI w ⟨p.la,p.lb⟩,endI w ⟨p.la,p.lb⟩,p.cat.map (edgC w)⟩
def edgB(b:Bk)(w:Bool):Bk:=⟨b.parts,b.size,b.beats,b.start,b.fin,b.tlo,b.thi,endI w ⟨b.slo,b.shi⟩,endI w ⟨b.slo,b.shi⟩,b.notice,b.players.map (edgP w)⟩
def accT:List Two→U
 |[]=>.lst .full 0 []
 |q::l=>.lst .own 2 (yP (q::l))
theorem accT_snoc(q:Two)(B:List Two)(z:Two):accT (q::B++[z])=.lst .own 2 (yP (q::B)++[yq z.a z.b]):=by
 show U.lst .own 2 (yP (q::B++[z]))=_
 unfold yP
 rw[List.map_append];rfl
def accP:List Pl→U
 |[]=>.lst .full 0 []
 |q::l=>.lst .own 3 (plsU (q::l))
theorem accP_snoc(q:Pl)(B:List Pl)(z:Pl):accP (q::B++[z])=.lst .own 3 (plsU (q::B)++[z.u]):=by
 show U.lst .own 3 (plsU (q::B++[z]))=_
 unfold plsU
 rw[List.map_append];rfl
theorem at_put{l:List SB}{i:Nat}{x y:SB}(h:l[i]? =some x):(l.set i y)[i]? =some y:=List.getElem?_set_self (List.getElem?_eq_some_iff.1 h).1
theorem map_snoc{α β:Type}{l:List α}{i:Nat}{x:α}(h:l[i]? =some x)(f:α→β):(l.take (i+1)).map f=(l.take i).map f++[f x]:=by
 rw[List.take_add_one,h,List.map_append];rfl
abbrev xC(b:Bk)(s:Int)(A:U):List U:=[.int .i64 b.parts,.int .i64 b.size,.lst .ro 1 (zH b.beats),.int .i64 b.start,.int .i64 b.fin,.int .i64 b.tlo,.int .i64 b.thi,.int .i64 s,.int .i64 s,.int .i64 b.notice,A]
abbrev zB:List U:=[.int .i64 0,.int .i64 0,.lst .full 0 [],.int .i64 0,.int .i64 0,.int .i64 0,.int .i64 0,.int .i64 0,.int .i64 0,.int .i64 0,.lst .full 0 []]
set_option maxHeartbeats 16000000 in
theorem ret47(hi:Off is){b:Bk}(hb:BOk b)(w:Bool):RetP Tryd.prog is orc 47 [b.u,.bool w] (edgB b w).u:=by
 refine yK body47 pure47 (hi 47 (by decide)) rfl rfl (yz (wV b 4) (.bool _ _)) (.inl (wV _ 4)) ?_
 have hpn:=hb.pn
 have q48:=ret48 (orc:=orc) hi (endI w ⟨b.slo,b.shi⟩) (endI w ⟨b.slo,b.shi⟩)
 refine kQ (yI rfl rfl (zz rfl ze27 ?_))
 refine zA ?_
 refine zO [(1,U.bool w),(2,U.box 0 0),(4,U.box 1 0)] ([SB.box [.int .i64 (Bk.parts b),.int .i64 (Bk.size b),.lst .ro 1 (zH (Bk.beats b)),.int .i64 (Bk.start b),.int .i64 (Bk.fin b),.int .i64 (Bk.tlo b),.int .i64 (Bk.thi b),.int .i64 (Bk.slo b),.int .i64 (Bk.shi b),.int .i64 (Bk.notice b),.lst .ro 3 (plsU (Bk.players b))],SB.box [.int .i64 0,.int .i64 0,.lst .full 0 [],.int .i64 0,.int .i64 0,.int .i64 0,.int .i64 0,.int .i64 0,.int .i64 0,.int .i64 0,.lst .full 0 []]]) (.cons rfl (.cons rfl (.cons rfl (.nil rfl)))) rfl fun fr=>?_
 refine kQ (zN rfl rfl rfl sh27 rfl (zz rfl ze27 ?_))
 refine zb rfl rfl sh27 rfl rfl rfl rfl rfl ?_
 refine zA ?_
 refine zO [(1,U.bool w),(2,U.box 0 0),(4,U.box 1 0),(5,U.box 2 0)] ([SB.box [.int .i64 (Bk.parts b),.int .i64 (Bk.size b),.lst .ro 1 (zH (Bk.beats b)),.int .i64 (Bk.start b),.int .i64 (Bk.fin b),.int .i64 (Bk.tlo b),.int .i64 (Bk.thi b),.int .i64 (Bk.slo b),.int .i64 (Bk.shi b),.int .i64 (Bk.notice b),.lst .ro 3 (plsU (Bk.players b))],SB.box [.int .i64 0,.int .i64 0,.lst .full 0 [],.int .i64 0,.int .i64 0,.int .i64 0,.int .i64 0,.int .i64 0,.int .i64 0,.int .i64 0,.lst .full 0 []],SB.box [.int .i64 (Bk.parts b),.int .i64 (Bk.size b),.lst .ro 1 (zH (Bk.beats b)),.int .i64 (Bk.start b),.int .i64 (Bk.fin b),.int .i64 (Bk.tlo b),.int .i64 (Bk.thi b),.int .i64 (Bk.slo b),.int .i64 (Bk.shi b),.int .i64 (Bk.notice b),.lst .ro 3 (plsU (Bk.players b))]]) (.c4 rfl rfl rfl rfl (.nil rfl)) rfl fun fr=>?_
 refine kQ (zE rfl rfl yW (zBi rfl rfl sh25 rfl rfl (zA ?_)))
 refine zO [(1,U.bool w),(2,U.box 0 0),(4,U.box 1 0),(5,U.box 2 0)] ([SB.box [.int .i64 (Bk.parts b),.int .i64 (Bk.size b),.lst .ro 1 (zH (Bk.beats b)),.int .i64 (Bk.start b),.int .i64 (Bk.fin b),.int .i64 (Bk.tlo b),.int .i64 (Bk.thi b),.int .i64 (Bk.slo b),.int .i64 (Bk.shi b),.int .i64 (Bk.notice b),.lst .ro 3 (plsU (Bk.players b))],SB.box [.int .i64 0,.int .i64 0,.lst .full 0 [],.int .i64 0,.int .i64 0,.int .i64 0,.int .i64 0,.int .i64 0,.int .i64 0,.int .i64 0,.lst .full 0 []],SB.box [.int .i64 (Bk.parts b),.int .i64 (Bk.size b),.lst .ro 1 (zH (Bk.beats b)),.int .i64 (Bk.start b),.int .i64 (Bk.fin b),.int .i64 (Bk.tlo b),.int .i64 (Bk.thi b),.int .i64 (Bk.slo b),.int .i64 (Bk.shi b),.int .i64 (Bk.notice b),.lst .full 0 []]]) (.c4 rfl rfl rfl rfl (.nil rfl)) rfl fun fr=>?_
 refine k_cut (fun st=>st.st=[.box [.int .i64 b.parts,.int .i64 b.size,.lst .ro 1 (zH b.beats),.int .i64 b.start,.int .i64 b.fin,.int .i64 b.tlo,.int .i64 b.thi,.int .i64 b.slo,.int .i64 b.shi,.int .i64 b.notice,.lst .ro 3 (plsU b.players)],.box zB,.box (xC b (endI w ⟨b.slo,b.shi⟩) (.lst .full 0 []))]∧Holds st [(1,.bool w),(2,.box 0 0),(4,.box 1 0),(5,.box 2 0)]) ?_ (fun st hM=>?_)
 ·cases w with
  |true=>
   refine kQ (zC rfl (zA (k_cT rfl rfl ?_)))
   refine k_region (zE rfl rfl zBn (zE rfl rfl wC (zG rfl rfl rfl sh3 rfl (zE rfl rfl zBn (zE rfl rfl wC (zG rfl rfl rfl sh3 rfl (zP rfl (q48) (.lrefl _) (zE rfl rfl zBn ?_))))))))
   refine zb rfl rfl sh24 rfl rfl rfl rfl rfl ?_
   refine zA ?_
   exact⟨rfl,rfl,.c4 rfl rfl rfl rfl (.nil rfl)⟩
  |false=>
   refine kQ (zC rfl (zA (k_cF rfl rfl ?_)))
   refine k_region (zE rfl rfl zBn (zE rfl rfl yZ (zG rfl rfl rfl sh3 rfl (zE rfl rfl zBn (zE rfl rfl yZ (zG rfl rfl rfl sh3 rfl (zP rfl (q48) (.lrefl _) (zE rfl rfl zBn ?_))))))))
   refine zb rfl rfl sh24 rfl rfl rfl rfl rfl ?_
   refine zA ?_
   exact⟨rfl,rfl,.c4 rfl rfl rfl rfl (.nil rfl)⟩
 obtain⟨hst,hs⟩:=hM
 generalize hes:endI w ⟨b.slo,b.shi⟩=s at*
 refine zO _ _ hs hst fun fr=>?_
 refine k_seq (kQ (zD rfl (zA (zc ?_))))
 refine wl (fun kk s2=>∃i:Nat,kk+i=b.players.length∧(∃e,s2.st=[.box [.int .i64 b.parts,.int .i64 b.size,.lst .ro 1 (zH b.beats),.int .i64 b.start,.int .i64 b.fin,.int .i64 b.tlo,.int .i64 b.thi,.int .i64 b.slo,.int .i64 b.shi,.int .i64 b.notice,.lst .ro 3 (plsU b.players)],.box zB,.box (xC b s (accP ((b.players.take i).map (edgP w))))]++e)∧Holds s2 [(1,.bool w),(2,.box 0 0),(4,.box 1 0),(5,.box 2 0),(6,.int .i64 i)]) (fun kk s2 hI=>?_) b.players.length _ ⟨0,rfl,⟨[],rfl⟩,.c4 rfl rfl rfl rfl (.cons rfl (.nil rfl))⟩
 obtain⟨i,hk,⟨e,hst2⟩,hs2⟩:=hI
 obtain⟨A,hA⟩:∃A,A=(b.players.take i).map (edgP w):=⟨_,rfl⟩
 have hAl:A.length=min i b.players.length:=by rw[hA];simp
 rw[←hA]at hst2
 obtain⟨Y,hY⟩:∃Y,Y=[.box [.int .i64 b.parts,.int .i64 b.size,.lst .ro 1 (zH b.beats),.int .i64 b.start,.int .i64 b.fin,.int .i64 b.tlo,.int .i64 b.thi,.int .i64 b.slo,.int .i64 b.shi,.int .i64 b.notice,.lst .ro 3 (plsU b.players)],.box zB,.box (xC b s (accP A))]++e:=⟨_,rfl⟩
 rw[←hY]at hst2
 have y0:Y[0]? =some (.box [.int .i64 b.parts,.int .i64 b.size,.lst .ro 1 (zH b.beats),.int .i64 b.start,.int .i64 b.fin,.int .i64 b.tlo,.int .i64 b.thi,.int .i64 b.slo,.int .i64 b.shi,.int .i64 b.notice,.lst .ro 3 (plsU b.players)]):=by rw[hY];rfl
 have y1:Y[1]? =some (.box zB):=by rw[hY];rfl
 have y2:Y[2]? =some (.box (xC b s (accP A))):=by rw[hY];rfl
 refine zO _ _ hs2 hst2 fun fr2=>?_
 by_cases hin:i<b.players.length
 ·obtain⟨p,hp⟩:∃p,b.players[i]? =some p:=⟨b.players[i],List.getElem?_eq_getElem hin⟩
  have hpo:=pl_ok hb hp
  have hAs:=map_snoc hp (edgP w)
  rw[←hA]at hAs
  refine k_seq (kQ (zC rfl (zE rfl rfl yW (zG rfl rfl y0 sh25 rfl ?_))))
  refine wI rfl ty25 rfl (List.length_map _) ?_
  refine yR rfl rfl rfl (zA (k_cT rfl (decide_eq_true (by omega)) (zk (k_seq (zc (kQ (ww rfl ze68 pl68 rfl rfl ?_)))))))
  refine zz rfl ze68 ?_
  refine zb rfl (yB _ _) sh68 rfl rfl rfl rfl rfl ?_
  refine zA ?_
  refine zO [(1,U.bool w),(2,U.box 0 0),(4,U.box 1 0),(5,U.box 2 0),(6,.int .i64 ↑i),(7,U.box (List.length Y) 0)] (Y++[SB.box [.int .i64 0,.int .i64 0,.lst .full 0 []]]) (.c4 rfl rfl rfl rfl (.cons rfl (.cons rfl (.nil rfl)))) (wW _ _ _) fun fr=>?_
  refine kQ (zE rfl rfl yW (zG rfl rfl (yO y0) sh25 rfl ?_))
  refine zC rfl (wR (u:=(p).u) rfl ty25 rfl rfl (Int.natCast_nonneg _) (by simp[hp]) cl68 ?_)
  refine wv rfl rfl zCR ?_
  refine wv rfl rfl yZ ?_
  refine yE rfl rfl sh3 rfl ?_
  refine zD rfl (zA ?_)
  obtain⟨k7,hk7⟩:∃k7,k7=Y.length:=⟨_,rfl⟩
  refine zO [(1,.bool w),(2,.box 0 0),(4,.box 1 0),(5,.box 2 0),(6,.int .i64 i),(7,.box k7 0),(8,.int .i64 p.la)] (Y++[.box [.int .i64 0,.int .i64 0,.lst .full 0 []]]) (.c4 rfl rfl rfl rfl (.cons rfl (.cons (by rw[hk7];rfl) (.cons rfl (.nil rfl))))) rfl fun fr3=>?_
  have y7:(Y++[SB.box [.int .i64 0,.int .i64 0,.lst .full 0 []]])[k7]? =some (.box [.int .i64 0,.int .i64 0,.lst .full 0 []]):=by rw[hk7];exact yB _ _
  refine k_cut (fun st=>st.st=Y++[.box [.int .i64 0,.int .i64 0,.lst .full 0 []]]∧Holds st [(1,.bool w),(2,.box 0 0),(4,.box 1 0),(5,.box 2 0),(6,.int .i64 i),(7,.box k7 0),(8,.int .i64 (endI w ⟨p.la,p.lb⟩))]) ?_ (fun st hM=>?_)
  ·cases w with
   |true=>
    refine kQ (zC rfl (zA (k_cT rfl rfl ?_)))
    refine k_region (zE rfl rfl yW (zG rfl rfl (yO y0) sh25 rfl ?_))
    refine zC rfl (wR (u:=(p).u) rfl ty25 rfl rfl (Int.natCast_nonneg _) (by simp[hp]) cl68 ?_)
    refine wv rfl rfl zCR ?_
    refine wv rfl rfl wC ?_
    refine yE rfl rfl sh3 rfl ?_
    refine zD rfl (zA ?_)
    exact⟨rfl,rfl,.c4 rfl rfl rfl rfl (.cons rfl (.cons rfl (.cons rfl (.nil rfl))))⟩
   |false=>
    refine kQ (zC rfl (zA (k_cF rfl rfl ?_)))
    refine zk ?_
    exact⟨rfl,rfl,.c4 rfl rfl rfl rfl (.cons rfl (.cons rfl (.cons rfl (.nil rfl))))⟩
  obtain⟨hst4,hs4⟩:=hM
  have q48:=ret48 (orc:=orc) hi (endI w ⟨p.la,p.lb⟩) (endI w ⟨p.la,p.lb⟩)
  have ep:edgP w p=⟨endI w ⟨p.la,p.lb⟩,endI w ⟨p.la,p.lb⟩,p.cat.map (edgC w)⟩:=rfl
  generalize endI w ⟨p.la,p.lb⟩=v at*
  refine zO _ _ hs4 hst4 fun fr4=>?_
  refine kQ (zC rfl (zC rfl (zP rfl (q48) (.lrefl _) (zE rfl rfl zCR (zb rfl y7 sh24 rfl rfl rfl rfl rfl ?_)))))
  refine zA (k_seq (kQ (zD rfl (zA (zc ?_)))))
  refine wl (fun km s3=>∃m:Nat,km+m=4∧s3.st=Y++[.box [.int .i64 v,.int .i64 v,accT ((p.cat.take m).map (edgC w))]]∧Holds s3 [(1,.bool w),(2,.box 0 0),(4,.box 1 0),(5,.box 2 0),(6,.int .i64 i),(7,.box k7 0),(9,.int .i64 m)]) (fun km s3 hI=>?_) 4 _ ⟨0,rfl,(by show(Y++[SB.box _]).set k7 (SB.box _)=_;rw[hk7,wW];rfl),.c4 rfl rfl rfl rfl (.cons rfl (.cons rfl (.cons rfl (.nil rfl))))⟩
  obtain⟨m,hkm,hst5,hs5⟩:=hI
  have h4:=hpo.2.1
  obtain⟨W,hW⟩:∃W,W=(p.cat.take m).map (edgC w):=⟨_,rfl⟩
  have hWl:W.length=min m 4:=by rw[hW];simp[h4]
  rw[←hW]at hst5
  by_cases hm:m<4
  ·obtain⟨c,hc⟩:∃c,p.cat[m]? =some c:=⟨p.cat[m]'(by omega),List.getElem?_eq_getElem (by omega)⟩
   have hWs:=map_snoc hc (edgC w)
   rw[←hW]at hWs
   refine zO _ _ hs5 hst5 fun fr5=>?_
   refine k_seq (kQ (zC rfl (zE rfl rfl yW (zG rfl rfl (yO y0) sh25 rfl ?_))))
   refine zC rfl (wR (u:=(p).u) rfl ty25 rfl rfl (Int.natCast_nonneg _) (by simp[hp]) cl68 ?_)
   refine wv rfl rfl wL ?_
   refine yE rfl rfl sh66 rfl ?_
   refine wI rfl ty66 rfl (List.length_map _) ?_
   refine yR rfl rfl rfl (zA (k_cT rfl (decide_eq_true (by omega)) (zk (k_seq (zc (kQ (zE rfl rfl yW (zG rfl rfl (yO y0) sh25 rfl ?_))))))))
   refine zC rfl (wR (u:=(p).u) rfl ty25 rfl rfl (Int.natCast_nonneg _) (by simp[hp]) cl68 ?_)
   refine wv rfl rfl wL ?_
   refine yE rfl rfl sh66 rfl ?_
   refine zC rfl (wR (u:=(c).u) rfl ty66 rfl rfl (Int.natCast_nonneg _) (by simp[hc]) cl24 ?_)
   refine wv rfl rfl wC ?_
   refine yE rfl rfl sh3 rfl ?_
   refine zD rfl (zA ?_)
   refine zO [(1,U.bool w),(2,U.box 0 0),(4,U.box 1 0),(5,U.box 2 0),(6,.int .i64 ↑i),(7,U.box k7 0),(9,.int .i64 ↑m),(10,.int .i64 c.b)] (Y++[SB.box [.int .i64 v,.int .i64 v,accT W]]) (.c4 rfl rfl rfl rfl (.c4 rfl rfl rfl rfl (.nil rfl))) rfl fun fr=>?_
   refine zO [(1,.bool w),(2,.box 0 0),(4,.box 1 0),(5,.box 2 0),(6,.int .i64 i),(7,.box k7 0),(9,.int .i64 m),(10,.int .i64 c.b)] (Y++[.box [.int .i64 v,.int .i64 v,accT W]]) (.c4 rfl rfl rfl rfl (.c4 rfl rfl rfl rfl (.nil rfl))) rfl fun fr6=>?_
   refine k_cut (fun st=>st.st=Y++[.box [.int .i64 v,.int .i64 v,accT W]]∧Holds st [(1,.bool w),(2,.box 0 0),(4,.box 1 0),(5,.box 2 0),(6,.int .i64 i),(7,.box k7 0),(9,.int .i64 m),(10,.int .i64 (endI (!w) c))]) ?_ (fun st hM=>?_)
   ·cases w with
    |true=>
     refine kQ (zC rfl (zA (k_cT rfl rfl ?_)))
     refine k_region (zE rfl rfl yW (zG rfl rfl (yO y0) sh25 rfl ?_))
     refine zC rfl (wR (u:=(p).u) rfl ty25 rfl rfl (Int.natCast_nonneg _) (by simp[hp]) cl68 ?_)
     refine wv rfl rfl wL ?_
     refine yE rfl rfl sh66 rfl ?_
     refine zC rfl (wR (u:=(c).u) rfl ty66 rfl rfl (Int.natCast_nonneg _) (by simp[hc]) cl24 ?_)
     refine wv rfl rfl yZ ?_
     refine yE rfl rfl sh3 rfl ?_
     refine zD rfl (zA ?_)
     exact⟨rfl,rfl,.c4 rfl rfl rfl rfl (.c4 rfl rfl rfl rfl (.nil rfl))⟩
    |false=>
     refine kQ (zC rfl (zA (k_cF rfl rfl ?_)))
     refine zk ?_
     exact⟨rfl,rfl,.c4 rfl rfl rfl rfl (.c4 rfl rfl rfl rfl (.nil rfl))⟩
   obtain⟨hst7,hs7⟩:=hM
   have q48c:=ret48 (orc:=orc) hi (endI (!w) c) (endI (!w) c)
   have ec:edgC w c=⟨endI (!w) c,endI (!w) c⟩:=rfl
   generalize endI (!w) c=u at*
   have y7b:(Y++[SB.box [.int .i64 v,.int .i64 v,accT W]])[k7]? =some (.box [.int .i64 v,.int .i64 v,accT W]):=by rw[hk7];exact yB _ _
   refine zO _ _ hs7 hst7 fun fr7=>?_
   cases W with
   |nil=>
    refine zAc [.plain,.read true,.plain,.plain,.read false,.lay,.plain,.plain,.plain] (by kernel_rfl) (by kernel_rfl) (by kernel_rfl) ?_
    refine zF (zE rfl rfl wL (zA rfl)) ?_
    refine zq rfl (zG rfl rfl y7b sh66 rfl (zA rfl)) ?_
    refine zF (zC rfl (zA rfl)) (zF (zC rfl (zA rfl)) (zBM rfl (q48c) (zAv _ _) (.lrefl _) ?_))
    refine d_lay (es:=[yq u u]) rfl ty66 ze24 cl24 rfl rfl rfl rfl rfl rfl rfl rfl ?_
    refine zF (zFT rfl ap66_66 rfl rfl (by simp) (by simp) (by simp[yh,yA,oneU]) (by simp) (zA rfl)) ?_
    refine zF (zE rfl rfl wL (zA rfl)) ?_
    refine zF (zBi rfl y7b sh66 rfl rfl (zA rfl)) ?_
    refine zCS ?_
    refine zO [(1,U.bool w),(2,U.box 0 0),(4,U.box 1 0),(5,U.box 2 0),(6,.int .i64 ↑i),(7,U.box k7 0),(9,.int .i64 ↑m)] (List.set (Y++[SB.box [.int .i64 v,.int .i64 v,accT []]]) k7 (SB.box [.int .i64 v,.int .i64 v,U.lst Kd.own 2 [yq u u]])) (.c4 rfl rfl rfl rfl (.cons rfl (.cons rfl (.cons rfl (.nil rfl))))) rfl fun fr=>?_
    refine k_region (zC rfl ?_)
    refine we rfl rfl rfl (by unfold I64;omega) (zD rfl (zA ?_))
    exact⟨km - 1,by omega,m+1,by omega,(by show(Y++[SB.box _]).set k7 (SB.box _)=_;rw[hk7,wW,hWs,ec];rfl),.c4 rfl rfl rfl rfl (.cons rfl (.cons rfl (.cons rfl (.nil rfl))))⟩
   |cons q W=>
    refine zAc [.plain,.read true,.plain,.plain,.read false,.lay,.plain,.plain,.plain] (by kernel_rfl) (by kernel_rfl) (by kernel_rfl) ?_
    refine zF (zE rfl rfl wL (zA rfl)) ?_
    refine zq rfl (zG rfl rfl y7b sh66 rfl (zA rfl)) ?_
    refine zF (zC rfl (zA rfl)) (zF (zC rfl (zA rfl)) (zBM rfl (q48c) (zAv _ _) (.lrefl _) ?_))
    refine d_lay (es:=[yq u u]) rfl ty66 ze24 cl24 rfl rfl rfl rfl rfl rfl rfl rfl ?_
    refine zF (o_appendC (k7) 2 rfl ap66_66 (isCp_head rfl) y7b rfl rfl (by simp) (by simp) (by simp[yh,yA,oneU]) (by simp at*;omega) (zA rfl)) ?_
    refine zF (zE rfl rfl wL (zA rfl)) ?_
    refine zF (zBi rfl (at_put y7b) sh66 rfl rfl (zA rfl)) ?_
    refine zCS ?_
    refine zO [(1,U.bool w),(2,U.box 0 0),(4,U.box 1 0),(5,U.box 2 0),(6,.int .i64 ↑i),(7,U.box k7 0),(9,.int .i64 ↑m)] (List.set (List.set (Y++[SB.box [.int .i64 v,.int .i64 v,accT (q::W)]]) k7 (SB.box [.int .i64 v,.int .i64 v,.lst .ro 2 (yP (q::W))])) k7 (SB.box [.int .i64 v,.int .i64 v,U.lst Kd.own 2 (Two.u q::List.append (List.map Two.u W) [yq u u])])) (.c4 rfl rfl rfl rfl (.cons rfl (.cons rfl (.cons rfl (.nil rfl))))) rfl fun fr=>?_
    refine k_region (zC rfl ?_)
    refine we rfl rfl rfl (by unfold I64;omega) (zD rfl (zA ?_))
    exact⟨km - 1,by omega,m+1,by omega,(by show((Y++[SB.box _]).set k7 (SB.box _)).set k7 (SB.box _)=_;rw[List.set_set,hk7,wW,hWs,ec,accT_snoc];rfl),.c4 rfl rfl rfl rfl (.cons rfl (.cons rfl (.cons rfl (.nil rfl))))⟩
  ·have hm4:m=4:=by omega
   subst hm4
   have eW:W=p.cat.map (edgC w):=by rw[hW,List.take_of_length_le (by omega)]
   have y7b:(Y++[SB.box [.int .i64 v,.int .i64 v,accT W]])[k7]? =some (.box [.int .i64 v,.int .i64 v,accT W]):=by rw[hk7];exact yB _ _
   obtain⟨Z,hZ⟩:∃Z,Z=Y++[SB.box [.int .i64 v,.int .i64 v,accT W]]:=⟨_,rfl⟩
   rw[←hZ]at hst5 y7b
   have z0:Z[0]? =some (.box [.int .i64 b.parts,.int .i64 b.size,.lst .ro 1 (zH b.beats),.int .i64 b.start,.int .i64 b.fin,.int .i64 b.tlo,.int .i64 b.thi,.int .i64 b.slo,.int .i64 b.shi,.int .i64 b.notice,.lst .ro 3 (plsU b.players)]):=by rw[hZ];exact yO y0
   have z2:Z[2]? =some (.box (xC b s (accP A))):=by rw[hZ];exact yO y2
   refine zO _ _ hs5 hst5 fun fr5=>?_
   cases W with
   |nil=>simp at hWl
   |cons q W=>
    cases A with
    |nil=>
     refine k_seq (kQ (zC rfl (zE rfl rfl yW (zG rfl rfl z0 sh25 rfl ?_))))
     refine zC rfl (wR (u:=(p).u) rfl ty25 rfl rfl (Int.natCast_nonneg _) (by simp[hp]) cl68 ?_)
     refine wv rfl rfl wL ?_
     refine yE rfl rfl sh66 rfl ?_
     refine wI rfl ty66 rfl (List.length_map _) ?_
     refine yR rfl rfl rfl (zA (k_cF rfl (decide_eq_false (by omega)) (wU (k_region (zE rfl rfl yW (zG rfl rfl z2 sh25 rfl ?_))))))
     refine zN rfl rfl y7b sh68 rfl ?_
     refine o_weak 99 rfl (fun _=>rfl) (.agg _ _ (.lcons _ _ _ _ (.refl _) (.lcons _ _ _ _ (.refl _) (.lcons _ _ _ _ (.ro .own _ _) (.lrefl _))))) ?_
     refine zCn (es:=[U.agg [.int .i64 v,.int .i64 v,U.lst Kd.ro 2 (yP (q::W))]]) rfl ty25 ze68 cl68 rfl rfl rfl rfl rfl rfl rfl rfl ?_
     refine zFT rfl ap25_25 rfl rfl (by simp) (by simp) (by simp[yh,yA,oneU]) (by simp) ?_
     refine zE rfl rfl yW (zBi rfl z2 sh25 rfl rfl ?_)
     refine zA ?_
     refine zO [(1,U.bool w),(2,U.box 0 0),(4,U.box 1 0),(5,U.box 2 0),(6,.int .i64 ↑i)] (List.set Z 2 (SB.box (List.set (xC b s (accP [])) (0+10) (U.lst Kd.own 3 [U.agg [.int .i64 v,.int .i64 v,.lst .ro 2 (yP (q::W))]])))) (.c4 rfl rfl rfl rfl (.cons rfl (.nil rfl))) rfl fun fr=>?_
     refine k_region (zC rfl ?_)
     refine we rfl rfl rfl (by unfold I64;omega) (zD rfl (zA ?_))
     exact⟨kk - 1,by omega,i+1,by omega,⟨_,(by show Z.set 2 _=_;rw[hZ,hY,hAs,ep,←eW];rfl)⟩,.c4 rfl rfl rfl rfl (.cons rfl (.nil rfl))⟩
    |cons a A=>
     refine k_seq (kQ (zC rfl (zE rfl rfl yW (zG rfl rfl z0 sh25 rfl ?_))))
     refine zC rfl (wR (u:=(p).u) rfl ty25 rfl rfl (Int.natCast_nonneg _) (by simp[hp]) cl68 ?_)
     refine wv rfl rfl wL ?_
     refine yE rfl rfl sh66 rfl ?_
     refine wI rfl ty66 rfl (List.length_map _) ?_
     refine yR rfl rfl rfl (zA (k_cF rfl (decide_eq_false (by omega)) (wU (k_region (zE rfl rfl yW (zG rfl rfl z2 sh25 rfl ?_))))))
     refine zN rfl rfl y7b sh68 rfl ?_
     refine o_weak 99 rfl (fun _=>rfl) (.agg _ _ (.lcons _ _ _ _ (.refl _) (.lcons _ _ _ _ (.refl _) (.lcons _ _ _ _ (.ro .own _ _) (.lrefl _))))) ?_
     refine zCn (es:=[U.agg [.int .i64 v,.int .i64 v,U.lst Kd.ro 2 (yP (q::W))]]) rfl ty25 ze68 cl68 rfl rfl rfl rfl rfl rfl rfl rfl ?_
     refine o_appendC (2) 10 rfl ap25_25 rfl z2 rfl rfl (by simp) (by simp) (by simp[yh,yA,oneU]) (by simp at hAl ⊢;omega) ?_
     refine zE rfl rfl yW (zBi rfl (at_put z2) sh25 rfl rfl ?_)
     refine zA ?_
     refine zO [(1,U.bool w),(2,U.box 0 0),(4,U.box 1 0),(5,U.box 2 0),(6,.int .i64 ↑i)] (List.set (List.set Z 2 (SB.box (List.set (xC b s (accP (a::A))) 10 (.lst .ro 3 (plsU (a::A)))))) 2 (SB.box (List.set (List.set (xC b s (accP (a::A))) 10 (.lst .ro 3 (plsU (a::A)))) (0+10) (U.lst Kd.own 3 (Pl.u a::List.append (List.map Pl.u A) [U.agg [.int .i64 v,.int .i64 v,.lst .ro 2 (yP (q::W))]]))))) (.c4 rfl rfl rfl rfl (.cons rfl (.nil rfl))) rfl fun fr=>?_
     refine k_region (zC rfl ?_)
     refine we rfl rfl rfl (by unfold I64;omega) (zD rfl (zA ?_))
     exact⟨kk - 1,by omega,i+1,by omega,⟨_,(by show(Z.set 2 _).set 2 _=_;rw[hZ,hY,hAs,ep,←eW,accP_snoc];rfl)⟩,.c4 rfl rfl rfl rfl (.cons rfl (.nil rfl))⟩
 ·have hie:i=b.players.length:=by omega
  subst hie
  rw[List.take_length]at hA
  cases A with
  |nil=>simp at hAl;omega
  |cons a A=>
   have eB:(edgB b w).u=.agg (xC b s (.lst .ro 3 (plsU (a::A)))):=by rw[hA,←hes];rfl
   rw[eB]
   have y1s:(Y.set 1 (.box (xC b s (.lst .ro 3 (plsU (a::A))))))[1]? =some (.box (xC b s (.lst .ro 3 (plsU (a::A))))):=at_put y1
   refine k_seq (kQ (zC rfl (zE rfl rfl yW (zG rfl rfl y0 sh25 rfl ?_))))
   refine wI rfl ty25 rfl (List.length_map _) ?_
   refine yR rfl rfl rfl (zA (k_cF rfl (decide_eq_false (by omega)) (wU (kQ (zN rfl rfl y2 sh27 rfl ?_)))))
   refine o_weak 103 rfl (fun _=>rfl) (.agg _ _ (.lcons _ _ _ _ (.refl _) (.lcons _ _ _ _ (.refl _) (.lcons _ _ _ _ (.refl _) (.lcons _ _ _ _ (.refl _) (.lcons _ _ _ _ (.refl _) (.lcons _ _ _ _ (.refl _) (.lcons _ _ _ _ (.refl _) (.lcons _ _ _ _ (.refl _) (.lcons _ _ _ _ (.refl _) (.lcons _ _ _ _ (.refl _) (.lcons _ _ _ _ (.ro .own _ _) (.lrefl _))))))))))))) ?_
   refine zb rfl y1 sh27 rfl rfl rfl rfl rfl ?_
   refine zA (zh ?_)
   refine⟨.inr rfl,_,.cons _ _ _ _ (.cellN 4 27 1 0 11 (xC b s (.lst .ro 3 (plsU (a::A)))) rfl y1s sh27 rfl) .nil,?_⟩
   exact .refl _
end Go.Proofs.YtfbmlibilcjlgaaDoor.drumEnds
