import Derived.Test.YtfbmlibilcjlgaaDoorVamT9
set_option linter.unusedVariables false
set_option linter.unusedSimpArgs false
set_option linter.constructorNameAsVariable false
namespace Go.Proofs.YtfbmlibilcjlgaaDoor.drumEnds
open Vam
section
variable {is:FuncId→Bool}{orc:Known}
noncomputable def b9:Code:=(Tryd.f9.body).getD .skip
theorem body9:bodyOf Tryd.prog 9=some (125,b9,[.tmp 6]):=by kernel_rfl
theorem pure9:pureFn Tryd.prog 9=true:=by kernel_rfl
theorem zDb(v:Bool)(e:Int):endI v ⟨e,e⟩=e:=by unfold endI;split<;>rfl
theorem end_b(w:Bool){q:Two}{lo hi:Int}(h:lo≤q.a∧q.a≤q.b∧q.b≤hi):lo≤endI w q∧endI w q≤hi:=by unfold endI;split<;>omega
theorem edg_ok{b:Bk}(hb:BOk b)(w:Bool):BOk (edgB b w):=by
 have hs:=end_b w (q:=⟨b.slo,b.shi⟩) hb.sl
 refine⟨hb.n4,by show 1≤(b.players.map (edgP w)).length∧(b.players.map (edgP w)).length≤5;rw[List.length_map];exact hb.pn,fun p hp=>?_,hb.pa,hb.sz,hb.bt,hb.st,hb.fi,hb.ti,⟨hs.1,Int.le_refl _,hs.2⟩,hb.no⟩
 obtain⟨q,hq,rfl⟩:=List.mem_map.1 (show p∈b.players.map (edgP w)from hp)
 have h:=hb.pl q hq
 have hl:=end_b w (q:=⟨q.la,q.lb⟩) h.1
 refine⟨⟨hl.1,Int.le_refl _,hl.2⟩,by show(q.cat.map _).length=4;rw[List.length_map];exact h.2.1,fun c hc=>?_⟩
 obtain⟨d,hd,rfl⟩:=List.mem_map.1 (show c∈q.cat.map (edgC w)from hc)
 have:=end_b (!w) (h.2.2 d hd)
 exact⟨this.1,Int.le_refl _,this.2⟩
theorem edg_path{b:Bk}{L:List Int}(h:POk b L)(w:Bool):POk (edgB b w) L:=⟨h.len,h.rg,h.st,h.nr⟩
theorem slip_edg(b:Bk)(w v:Bool)(L:List Int)(n:Nat):zDO (edgB b w) v L n=zDO b w L n:=by
 unfold zDO
 show(if n / b.size.toNat=0∨n % b.size.toNat≠0∨L[n / b.size.toNat]? =L[n / b.size.toNat - 1]? then 0 else endI v ⟨endI w ⟨b.slo,b.shi⟩,endI w ⟨b.slo,b.shi⟩⟩)=_
 rw[zDb]
theorem cat_edg(w v:Bool)(p:Pl)(x:Int):catI v (edgP w p) x=catI (!w) p x:=by
 unfold catI
 show endI v (((p.cat.map (edgC w))[x.toNat]?).getD ⟨0,0⟩)=_
 rw[List.getElem?_map]
 cases p.cat[x.toNat]? with
 |none=>show endI v ⟨0,0⟩=endI (!w) ⟨0,0⟩;rw[zDb,zDb]
 |some c=>exact zDb _ _
theorem aft_edg(b:Bk)(w v:Bool)(L:List Int)(p:Pl)(n:Nat):aftI (edgB b w) v L (edgP w p) n=aftI b w L p n:=by
 induction n with
 |zero=>exact zDb _ _
 |succ n ih=>
  show max 0 (aftI (edgB b w) v L (edgP w p) n+zDO (edgB b w) v L n - catI (!v) (edgP w p) ((L[n / b.size.toNat]?).getD 0))=max 0 (aftI b w L p n+zDO b w L n - catI (!w) p ((L[n / b.size.toNat]?).getD 0))
  rw[ih,slip_edg,cat_edg]
theorem aftF_edg(b:Bk)(w v:Bool)(L:List Int)(n:Nat):aftF (edgB b w) v L n=aftF b w L n:=by
 funext j
 unfold aftF
 show(match(b.players.map (edgP w))[j]? with|some p=>_|none=>_)=_
 rw[List.getElem?_map]
 cases b.players[j]? with
 |none=>rfl
 |some p=>exact aft_edg b w v L p n
theorem last_edg(b:Bk)(w:Bool)(L:List Int)(n:Nat):zCC (edgB b w) L n=zCC b L n:=by
 induction n with
 |zero=>rfl
 |succ n ih=>show zCC (edgB b w) L n+b.size*zEc b _=zCC b L n+b.size*zEc b _;rw[ih]
theorem plan_edg(b:Bk)(L:List Int):planB (edgB b true) L=planB b L:=by
 unfold planB
 rw[last_edg,aftF_edg];rfl
theorem spn_eq24(a b:Int):binV Tryd.prog 24 .eql (valK (yq a b)) (valK (yq a b))=some (.bool true):=by
 have h:binV Tryd.prog 24 .eql (valK (yq a b)) (valK (yq a b))=opt none (fun x=>some (V.bool x)) (Vam.cond (ieq a a) (Vam.cond (ieq b b) (some true) (some false)) (some false)):=by kernel_rfl
 rw[h,zAV,zAV,show(a==a)=true by simp,show(b==b)=true by simp];rfl
set_option maxHeartbeats 16000000 in
set_option maxRecDepth 20000 in
theorem ret9(hi:Off is)(b:Bk)(bits:List Int)(n0 n1:Int)(r24:RetP Tryd.prog is orc 24 [] (.bool true)):RetP Tryd.prog is orc 9 [b.u,.lst .ro 1 (zH bits),.agg [.int .i64 n0,.int .i64 n1]] (.bool true):=by
 have q38:=ret38 (orc:=orc) hi b
 refine yK body9 pure9 (hi 9 (by decide)) rfl rfl (fun u hu=>?_) (.inl (.bool _ _)) ?_
 ·simp only[List.mem_cons,List.not_mem_nil,or_false]at hu
  rcases hu with rfl|rfl|rfl
  ·exact wV b 4
  ·exact ya 6 .ro (fun h=>by cases h) 1 bits
  ·exact .agg _ _ (yz (k:=7) (.int _ _ _) (.int _ _ _))
 cases hv:zDK b with
 |false=>
  rw[hv]at q38
  refine kQ (yI rfl rfl (yI rfl rfl (zD rfl (zA ?_))))
  refine zO [(1,.lst .ro 1 (zH bits)),(3,U.box 0 0),(5,U.box 1 0)] ([SB.box [.int .i64 (Bk.parts b),.int .i64 (Bk.size b),.lst .ro 1 (zH (Bk.beats b)),.int .i64 (Bk.start b),.int .i64 (Bk.fin b),.int .i64 (Bk.tlo b),.int .i64 (Bk.thi b),.int .i64 (Bk.slo b),.int .i64 (Bk.shi b),.int .i64 (Bk.notice b),.lst .ro 3 (plsU (Bk.players b))],SB.box [.int .i64 n0,.int .i64 n1]]) (.cons rfl (.cons rfl (.cons rfl (.nil rfl)))) rfl fun fr=>?_
  refine k_seq (kQ (zN rfl rfl rfl sh27 rfl (zP rfl (q38) (.lrefl _) (zCm rfl rfl (zA (k_cT rfl rfl ?_))))))
  refine kQ (zP rfl (r24) (.lrefl _) (zD rfl (zA (zh ?_))))
  refine⟨.inr rfl,_,.cons _ _ _ _ (.tmp 6) .nil,?_⟩
  exact .refl _
 |true=>
  rw[hv]at q38
  have h:=(zDJ b).1 hv
  have hpn:=h.pn
  have hmp:=mul_ps h
  have hpa:=h.pa
  have hsz:=h.sz
  have q43:=ret43 (orc:=orc) hi h bits
  have hok:=chol_ok h bits
  generalize choL b bits b.parts.toNat=L at*
  have qa:=ret46 (orc:=orc) hi n0 b.players.length (by omega)
  have qb:=ret46 (orc:=orc) hi n1 (b.parts*b.size+1) (by omega)
  have ha:=turnI_b (n:=n0) (b:=b.players.length) (by omega)
  have hb:=turnI_b (n:=n1) (b:=b.parts*b.size+1) (by omega)
  obtain⟨i,hi1⟩:∃i:Nat,zDl n0 b.players.length=i:=⟨(zDl n0 b.players.length).toNat,by omega⟩
  obtain⟨n,hn1⟩:∃n:Nat,zDl n1 (b.parts*b.size+1)=n:=⟨(zDl n1 (b.parts*b.size+1)).toNat,by omega⟩
  rw[hi1]at qa ha
  rw[hn1]at qb hb
  have q19:=ret19 (orc:=orc) hi h hok (i:=i) (n:=n) (by omega) (by omega)
  have q19f:=ret19 (orc:=orc) hi (edg_ok h false) (edg_path hok false) (i:=i) (n:=n) (by show i<(b.players.map _).length;rw[List.length_map];omega) (by show(n:Int)≤b.parts*b.size;omega)
  have q19t:=ret19 (orc:=orc) hi (edg_ok h true) (edg_path hok true) (i:=i) (n:=n) (by show i<(b.players.map _).length;rw[List.length_map];omega) (by show(n:Int)≤b.parts*b.size;omega)
  simp only[aftF_edg]at q19f q19t
  have q47f:=ret47 (orc:=orc) hi h false
  have q47t:=ret47 (orc:=orc) hi h true
  have q25:=ret25 (orc:=orc) hi h hok
  have q25t:=ret25 (orc:=orc) hi (edg_ok h true) (edg_path hok true)
  rw[plan_edg]at q25t
  generalize edgB b false=bf at*
  generalize edgB b true=bt at*
  generalize aftF b false L n i=lo at*
  generalize aftF b true L n i=hg at*
  generalize planB b L=pz at*
  have q48f:=ret48 (orc:=orc) hi lo lo
  have q48t:=ret48 (orc:=orc) hi hg hg
  have k120:decide (pz=pz)=true:=decide_eq_true rfl
  refine kQ (yI rfl rfl (yI rfl rfl (zD rfl (zA ?_))))
  refine zO [(1,.lst .ro 1 (zH bits)),(3,U.box 0 0),(5,U.box 1 0)] ([SB.box [.int .i64 (Bk.parts b),.int .i64 (Bk.size b),.lst .ro 1 (zH (Bk.beats b)),.int .i64 (Bk.start b),.int .i64 (Bk.fin b),.int .i64 (Bk.tlo b),.int .i64 (Bk.thi b),.int .i64 (Bk.slo b),.int .i64 (Bk.shi b),.int .i64 (Bk.notice b),.lst .ro 3 (plsU (Bk.players b))],SB.box [.int .i64 n0,.int .i64 n1]]) (.cons rfl (.cons rfl (.cons rfl (.nil rfl)))) rfl fun fr=>?_
  refine k_seq (kQ (zN rfl rfl rfl sh27 rfl (zP rfl (q38) (.lrefl _) (zCm rfl rfl (zA (k_cF rfl rfl ?_))))))
  refine zk (k_seq (zAc [.read true,.plain,.quiet,.plain,.read true,.plain,.read true,.read true,.read false,.plain,.read true,.plain,.read true,.plain,.read true,.plain,.plain,.plain,.plain,.plain,.plain] (by kernel_rfl) (by kernel_rfl) (by kernel_rfl) ?_))
  refine zq rfl (zN rfl rfl rfl sh27 rfl (zA rfl)) ?_
  refine zF (zC rfl (zA rfl)) (zDF rfl (q43) (.lrefl _) ?_)
  refine zF (zFR rfl ty28 rfl rfl (by omega) (by omega) cl3 (zA rfl)) ?_
  refine zq rfl (zG rfl rfl rfl sh3 rfl (zA rfl)) (zF (zE rfl rfl yW (zA rfl)) ?_)
  refine zq rfl (zG rfl rfl rfl sh25 rfl (zA rfl)) (zq rfl (wI rfl ty25 rfl (List.length_map _) (zA rfl)) ?_)
  refine zBM rfl (qa) (.int _ _) (.lrefl _) ?_
  refine zAZ [(3,U.box 0 0),(5,U.box 1 0),(26,.lst .ro 1 (zH L)),(32,.int .i64 ↑i)] [] ([SB.box [.int .i64 (Bk.parts b),.int .i64 (Bk.size b),.lst .ro 1 (zH (Bk.beats b)),.int .i64 (Bk.start b),.int .i64 (Bk.fin b),.int .i64 (Bk.tlo b),.int .i64 (Bk.thi b),.int .i64 (Bk.slo b),.int .i64 (Bk.shi b),.int .i64 (Bk.notice b),.lst .ro 3 (plsU (Bk.players b))],SB.box [.int .i64 n0,.int .i64 n1]]) (.c4 rfl rfl rfl rfl (.nil rfl)) rfl rfl fun fr=>?_
  refine zF (zFR rfl ty28 rfl rfl (by omega) (by omega) cl3 (zA rfl)) ?_
  refine zq rfl (zG rfl rfl rfl sh3 rfl (zA rfl)) (zF (zE rfl rfl zAb (zA rfl)) ?_)
  refine zq rfl (zG rfl rfl rfl sh3 rfl (zA rfl)) (zF (zE rfl rfl wg (zA rfl)) ?_)
  refine zq rfl (zG rfl rfl rfl sh3 rfl (zA rfl)) ?_
  refine zF (o_mul rfl rfl rfl (by unfold I64;omega) (zA rfl)) ?_
  refine zF (we rfl rfl rfl (by unfold I64;omega) (zA rfl)) ?_
  refine zF (zP rfl (qb) (.lrefl _) (zA rfl)) ?_
  refine zAZ [(3,U.box 0 0),(26,.lst .ro 1 (zH L)),(32,.int .i64 ↑i),(41,.int .i64 ↑n)] [] ([SB.box [.int .i64 (Bk.parts b),.int .i64 (Bk.size b),.lst .ro 1 (zH (Bk.beats b)),.int .i64 (Bk.start b),.int .i64 (Bk.fin b),.int .i64 (Bk.tlo b),.int .i64 (Bk.thi b),.int .i64 (Bk.slo b),.int .i64 (Bk.shi b),.int .i64 (Bk.notice b),.lst .ro 3 (plsU (Bk.players b))],SB.box [.int .i64 n0,.int .i64 n1]]) (.c4 rfl rfl rfl rfl (.nil rfl)) rfl rfl fun fr=>?_
  refine zF (zD rfl (zA rfl)) ?_
  refine zF (zD rfl (zA rfl)) ?_
  refine zF (zD rfl (zA rfl)) ?_
  refine zCS ?_
  refine zO [(3,U.box 0 0),(7,.lst .ro 1 (zH L)),(8,.int .i64 ↑i),(9,.int .i64 ↑n)] ([SB.box [.int .i64 (Bk.parts b),.int .i64 (Bk.size b),.lst .ro 1 (zH (Bk.beats b)),.int .i64 (Bk.start b),.int .i64 (Bk.fin b),.int .i64 (Bk.tlo b),.int .i64 (Bk.thi b),.int .i64 (Bk.slo b),.int .i64 (Bk.shi b),.int .i64 (Bk.notice b),.lst .ro 3 (plsU (Bk.players b))],SB.box [.int .i64 n0,.int .i64 n1]]) (.c4 rfl rfl rfl rfl (.nil rfl)) rfl fun fr=>?_
  refine kQ (zN rfl rfl rfl sh27 rfl (zC rfl (zC rfl (zC rfl (zP rfl (q19) (.lrefl _) (zC rfl (yk rfl rfl rfl (yk rfl rfl rfl ?_))))))))
  refine zz rfl ze24 ?_
  refine zb rfl rfl sh24 rfl rfl rfl rfl rfl ?_
  refine zD rfl (zA ?_)
  refine zO [(3,U.box 0 0),(7,.lst .ro 1 (zH L)),(8,.int .i64 ↑i),(9,.int .i64 ↑n),(10,U.box 2 0),(11,.int .i64 0)] ([SB.box [.int .i64 (Bk.parts b),.int .i64 (Bk.size b),.lst .ro 1 (zH (Bk.beats b)),.int .i64 (Bk.start b),.int .i64 (Bk.fin b),.int .i64 (Bk.tlo b),.int .i64 (Bk.thi b),.int .i64 (Bk.slo b),.int .i64 (Bk.shi b),.int .i64 (Bk.notice b),.lst .ro 3 (plsU (Bk.players b))],SB.box [.int .i64 n0,.int .i64 n1],SB.box [.int .i64 lo,.int .i64 hg]]) (.c4 rfl rfl rfl rfl (.cons rfl (.cons rfl (.nil rfl)))) rfl fun fr=>?_
  refine kQ (zN rfl rfl rfl sh27 rfl (zP rfl (q47f) (.lrefl _) (zC rfl (zC rfl (zC rfl (zP rfl (q19f) (.lrefl _) (zC rfl (yk rfl rfl rfl ?_))))))))
  refine yk rfl rfl rfl (zz rfl ze24 ?_)
  refine zb rfl rfl sh24 rfl rfl rfl rfl rfl ?_
  refine zD rfl (zA ?_)
  refine zO [(3,U.box 0 0),(7,.lst .ro 1 (zH L)),(8,.int .i64 ↑i),(9,.int .i64 ↑n),(10,U.box 2 0),(11,.int .i64 0),(12,U.box 3 0),(13,.int .i64 0)] ([SB.box [.int .i64 (Bk.parts b),.int .i64 (Bk.size b),.lst .ro 1 (zH (Bk.beats b)),.int .i64 (Bk.start b),.int .i64 (Bk.fin b),.int .i64 (Bk.tlo b),.int .i64 (Bk.thi b),.int .i64 (Bk.slo b),.int .i64 (Bk.shi b),.int .i64 (Bk.notice b),.lst .ro 3 (plsU (Bk.players b))],SB.box [.int .i64 n0,.int .i64 n1],SB.box [.int .i64 lo,.int .i64 hg],SB.box [.int .i64 lo,.int .i64 lo]]) (.c4 rfl rfl rfl rfl (.c4 rfl rfl rfl rfl (.nil rfl))) rfl fun fr=>?_
  refine kQ (zN rfl rfl rfl sh27 rfl (zP rfl (q47t) (.lrefl _) (zC rfl (zC rfl (zC rfl (zP rfl (q19t) (.lrefl _) (zC rfl (yk rfl rfl rfl ?_))))))))
  refine yk rfl rfl rfl (zz rfl ze24 ?_)
  refine zb rfl rfl sh24 rfl rfl rfl rfl rfl ?_
  refine zD rfl (zA ?_)
  refine zO [(3,U.box 0 0),(7,.lst .ro 1 (zH L)),(10,U.box 2 0),(11,.int .i64 0),(12,U.box 3 0),(13,.int .i64 0),(14,U.box 4 0),(15,.int .i64 0)] ([SB.box [.int .i64 (Bk.parts b),.int .i64 (Bk.size b),.lst .ro 1 (zH (Bk.beats b)),.int .i64 (Bk.start b),.int .i64 (Bk.fin b),.int .i64 (Bk.tlo b),.int .i64 (Bk.thi b),.int .i64 (Bk.slo b),.int .i64 (Bk.shi b),.int .i64 (Bk.notice b),.lst .ro 3 (plsU (Bk.players b))],SB.box [.int .i64 n0,.int .i64 n1],SB.box [.int .i64 lo,.int .i64 hg],SB.box [.int .i64 lo,.int .i64 lo],SB.box [.int .i64 hg,.int .i64 hg]]) (.c4 rfl rfl rfl rfl (.c4 rfl rfl rfl rfl (.nil rfl))) rfl fun fr=>?_
  refine kQ (zN rfl rfl rfl sh27 rfl (zC rfl (zP rfl (q25) (.lrefl _) (zC rfl (yk rfl rfl rfl (yk rfl rfl rfl (zD rfl (zD rfl ?_))))))))
  refine zA (kQ (zN rfl rfl rfl sh27 rfl (zP rfl (q47t) (.lrefl _) (zC rfl (zP rfl (q25t) (.lrefl _) (zC rfl (yk rfl rfl rfl (yk rfl rfl rfl ?_))))))))
  refine zD rfl (zD rfl (zA ?_))
  refine zO [(10,U.box 2 0),(11,.int .i64 0),(12,U.box 3 0),(13,.int .i64 0),(14,U.box 4 0),(15,.int .i64 0),(16,U.bool pz),(17,.int .i64 0),(18,U.bool pz),(19,.int .i64 0)] ([SB.box [.int .i64 (Bk.parts b),.int .i64 (Bk.size b),.lst .ro 1 (zH (Bk.beats b)),.int .i64 (Bk.start b),.int .i64 (Bk.fin b),.int .i64 (Bk.tlo b),.int .i64 (Bk.thi b),.int .i64 (Bk.slo b),.int .i64 (Bk.shi b),.int .i64 (Bk.notice b),.lst .ro 3 (plsU (Bk.players b))],SB.box [.int .i64 n0,.int .i64 n1],SB.box [.int .i64 lo,.int .i64 hg],SB.box [.int .i64 lo,.int .i64 lo],SB.box [.int .i64 hg,.int .i64 hg]]) (.c4 rfl rfl rfl rfl (.c4 rfl rfl rfl rfl (.cons rfl (.cons rfl (.nil rfl))))) rfl fun fr=>?_
  refine k_seq (zAc [.plain,.plain,.plain,.plain,.plain,.plain,.plain,.plain,.plain,.plain,.plain,.plain,.plain,.plain,.plain,.plain,.plain,.plain,.plain,.read true,.plain,.read true,.plain,.read true,.read false,.plain,.plain,.plain,.read true,.plain,.read true,.plain,.read true,.read false,.plain,.plain,.plain,.plain,.plain,.plain,.plain,.plain,.plain,.plain,.plain] (by kernel_rfl) (by kernel_rfl) (by kernel_rfl) ?_)
  refine zF (zC rfl (zA rfl)) (zF (zBS rfl rfl rfl (zA rfl)) ?_)
  refine zF (zC rfl (zA rfl)) (d_gD rfl rfl rfl rfl rfl (zF (zC rfl (zA rfl)) (d_gD rfl rfl rfl rfl rfl (zF (zBS rfl rfl rfl (zA rfl)) ?_))))
  refine zF (zU rfl rfl rfl (zA rfl)) ?_
  refine zF (zC rfl (zA rfl)) (d_gD rfl rfl rfl rfl rfl (zF (zC rfl (zA rfl)) (d_gD rfl rfl rfl rfl rfl (zF (zBS rfl rfl rfl (zA rfl)) ?_))))
  refine zAZ [(10,U.box 2 0),(12,U.box 3 0),(14,U.box 4 0),(16,U.bool pz),(17,.int .i64 0),(18,U.bool pz),(19,.int .i64 0),(87,U.bool (decide ((0:Int)=(0:Int)))),(89,U.bool (decide ((0:Int)=(0:Int))))] [] ([SB.box [.int .i64 (Bk.parts b),.int .i64 (Bk.size b),.lst .ro 1 (zH (Bk.beats b)),.int .i64 (Bk.start b),.int .i64 (Bk.fin b),.int .i64 (Bk.tlo b),.int .i64 (Bk.thi b),.int .i64 (Bk.slo b),.int .i64 (Bk.shi b),.int .i64 (Bk.notice b),.lst .ro 3 (plsU (Bk.players b))],SB.box [.int .i64 n0,.int .i64 n1],SB.box [.int .i64 lo,.int .i64 hg],SB.box [.int .i64 lo,.int .i64 lo],SB.box [.int .i64 hg,.int .i64 hg]]) (.c4 rfl rfl rfl rfl (.c4 rfl rfl rfl rfl (.cons rfl (.nil rfl)))) rfl rfl fun fr=>?_
  refine zF (zU rfl rfl rfl (zA rfl)) ?_
  refine zF (zC rfl (zA rfl)) (d_gD rfl rfl rfl rfl rfl (zF (zC rfl (zA rfl)) (d_gD rfl rfl rfl rfl rfl (zF (zBS rfl rfl rfl (zA rfl)) ?_))))
  refine zF (zU rfl rfl rfl (zA rfl)) ?_
  refine zF (zC rfl (zA rfl)) (d_gD rfl rfl rfl rfl rfl (zF (zC rfl (zA rfl)) (d_gD rfl rfl rfl rfl rfl (zF (zBS rfl rfl rfl (zA rfl)) ?_))))
  refine zF (zU rfl rfl rfl (zA rfl)) ?_
  refine zAZ [(10,U.box 2 0),(12,U.box 3 0),(14,U.box 4 0),(16,U.bool pz),(18,U.bool pz),(98,U.bool (decide ((0:Int)=(0:Int))))] [] ([SB.box [.int .i64 (Bk.parts b),.int .i64 (Bk.size b),.lst .ro 1 (zH (Bk.beats b)),.int .i64 (Bk.start b),.int .i64 (Bk.fin b),.int .i64 (Bk.tlo b),.int .i64 (Bk.thi b),.int .i64 (Bk.slo b),.int .i64 (Bk.shi b),.int .i64 (Bk.notice b),.lst .ro 3 (plsU (Bk.players b))],SB.box [.int .i64 n0,.int .i64 n1],SB.box [.int .i64 lo,.int .i64 hg],SB.box [.int .i64 lo,.int .i64 lo],SB.box [.int .i64 hg,.int .i64 hg]]) (.c4 rfl rfl rfl rfl (.cons rfl (.cons rfl (.nil rfl)))) rfl rfl fun fr=>?_
  refine zF (zC rfl (zA rfl)) (d_gD rfl rfl rfl rfl rfl (zq rfl (zN rfl rfl rfl sh24 rfl (zA rfl)) ?_))
  refine d_gD rfl rfl rfl rfl rfl (zF (zE rfl rfl yZ (zA rfl)) ?_)
  refine d_gD rfl rfl rfl rfl rfl (zq rfl (zG rfl rfl rfl sh3 rfl (zA rfl)) (d_gD rfl rfl rfl rfl rfl (zF (zE rfl rfl yZ (zA rfl)) ?_)))
  refine d_gD rfl rfl rfl rfl rfl (zq rfl (zG rfl rfl rfl sh3 rfl (zA rfl)) (d_gD rfl rfl rfl rfl rfl (zBM rfl (q48f) (zAv _ _) (.lrefl _) ?_)))
  refine d_gD rfl rfl rfl rfl rfl (zF (zFS rfl rfl rfl rfl rfl (spn_eq24 _ _) (zA rfl)) ?_)
  refine zF (zU rfl rfl rfl (zA rfl)) ?_
  refine zAZ [(10,U.box 2 0),(14,U.box 4 0),(16,U.bool pz),(18,U.bool pz),(107,.bool true)] [] ([SB.box [.int .i64 (Bk.parts b),.int .i64 (Bk.size b),.lst .ro 1 (zH (Bk.beats b)),.int .i64 (Bk.start b),.int .i64 (Bk.fin b),.int .i64 (Bk.tlo b),.int .i64 (Bk.thi b),.int .i64 (Bk.slo b),.int .i64 (Bk.shi b),.int .i64 (Bk.notice b),.lst .ro 3 (plsU (Bk.players b))],SB.box [.int .i64 n0,.int .i64 n1],SB.box [.int .i64 lo,.int .i64 hg],SB.box [.int .i64 lo,.int .i64 lo],SB.box [.int .i64 hg,.int .i64 hg]]) (.c4 rfl rfl rfl rfl (.cons rfl (.nil rfl))) rfl rfl fun fr=>?_
  refine zF (zC rfl (zA rfl)) (d_gD rfl rfl rfl rfl rfl (zq rfl (zN rfl rfl rfl sh24 rfl (zA rfl)) ?_))
  refine d_gD rfl rfl rfl rfl rfl (zF (zE rfl rfl wC (zA rfl)) ?_)
  refine d_gD rfl rfl rfl rfl rfl (zq rfl (zG rfl rfl rfl sh3 rfl (zA rfl)) (d_gD rfl rfl rfl rfl rfl (zF (zE rfl rfl wC (zA rfl)) ?_)))
  refine d_gD rfl rfl rfl rfl rfl (zq rfl (zG rfl rfl rfl sh3 rfl (zA rfl)) (d_gD rfl rfl rfl rfl rfl (zBM rfl (q48t) (zAv _ _) (.lrefl _) ?_)))
  refine d_gD rfl rfl rfl rfl rfl (zF (zFS rfl rfl rfl rfl rfl (spn_eq24 _ _) (zA rfl)) ?_)
  refine zF (zU rfl rfl rfl (zA rfl)) ?_
  refine zAZ [(16,U.bool pz),(18,U.bool pz),(116,.bool true)] [] ([SB.box [.int .i64 (Bk.parts b),.int .i64 (Bk.size b),.lst .ro 1 (zH (Bk.beats b)),.int .i64 (Bk.start b),.int .i64 (Bk.fin b),.int .i64 (Bk.tlo b),.int .i64 (Bk.thi b),.int .i64 (Bk.slo b),.int .i64 (Bk.shi b),.int .i64 (Bk.notice b),.lst .ro 3 (plsU (Bk.players b))],SB.box [.int .i64 n0,.int .i64 n1],SB.box [.int .i64 lo,.int .i64 hg],SB.box [.int .i64 lo,.int .i64 lo],SB.box [.int .i64 hg,.int .i64 hg]]) (.cons rfl (.cons rfl (.cons rfl (.nil rfl)))) rfl rfl fun fr=>?_
  refine zF (zC rfl (zA rfl)) (d_gD rfl rfl rfl rfl rfl (zF (zC rfl (zA rfl)) (d_gD rfl rfl rfl rfl rfl (zF (zC rfl (zA rfl)) (d_gD rfl rfl rfl rfl rfl (zF (o_eqlB rfl ty4 rfl rfl (zA rfl)) ?_))))))
  refine zF (zU rfl rfl rfl (zA rfl)) ?_
  refine zF (zC rfl (zA rfl)) (d_gD rfl rfl rfl rfl (by assumption) ?_)
  refine zF (zP rfl (r24) (.lrefl _) (zA rfl)) ?_
  refine zF (zU rfl rfl (by assumption) (zA rfl)) ?_
  refine zF (zD rfl (zA rfl)) ?_
  refine zCS ?_
  refine zh ?_
  refine⟨.inr rfl,_,.cons _ _ _ _ (.tmp 6) .nil,?_⟩
  exact .refl _
end
section
variable {is:FuncId→Bool}{orc:Known}
theorem zDj{P:Program}{t:TypeId}(n:Nat)(h:(match P.underlying t with|some (.struct fs)=>Nat.beq fs.size n|_=>false)=true):∃fs,P.underlying t=some (.struct fs):=by
 cases hu:P.underlying t with
 |none=>rw[hu]at h;cases h
 |some ty=>rw[hu]at h;cases ty<;>first|exact⟨_,rfl⟩|cases h
theorem u3:Tryd.prog.underlying 3=some (.int .i64):=by kernel_rfl
theorem u22:Tryd.prog.underlying 22=some (.slice 3):=by kernel_rfl
theorem u66:Tryd.prog.underlying 66=some (.slice 24):=by kernel_rfl
theorem u25:Tryd.prog.underlying 25=some (.slice 68):=by kernel_rfl
def fts(P:Program)(t:TypeId):List TypeId:=match P.underlying t with|some (.struct fs)=>fs.toList.map (·.type)|_=>[]
theorem f27:fts Tryd.prog 27=[3,3,22,3,3,24,24,3,25]:=by kernel_rfl
theorem f24:fts Tryd.prog 24=[3,3]:=by kernel_rfl
theorem f68:fts Tryd.prog 68=[24,66]:=by kernel_rfl
theorem clq24:Program.cellsOf Tryd.prog 24=2:=by kernel_rfl
theorem clq68:Program.cellsOf Tryd.prog 68=3:=by kernel_rfl
theorem clq3:Program.cellsOf Tryd.prog 3=1:=by kernel_rfl
theorem zBe{cs:List U}(h:Shp Tryd.prog 3 cs):∃n:Int,cs=[.int .i64 n]:=by
 cases h with
 |int _ k n hu _=>rw[u3]at hu;cases hu;exact⟨n,rfl⟩
 |bool _ _ hu=>rw[u3]at hu;cases hu
 |str _ _ hu=>rw[u3]at hu;cases hu
 |slice _ _ _ hu=>rw[u3]at hu;cases hu
 |struct _ _ _ hu=>rw[u3]at hu;cases hu
 |array _ _ _ _ hu=>rw[u3]at hu;cases hu
theorem zDp{P:Program}{t:TypeId}{cs:List U}(h:Shp P t cs)(hne:fts P t≠[]):∃fs:List Field,fs.map (·.type)=fts P t∧ShpF P fs cs:=by
 have no:∀{ty},P.underlying t=some ty→(∀fs,ty≠.struct fs)→False:=fun hu hn=>hne (by unfold fts;rw[hu];split<;>simp_all)
 cases h with
 |struct _ fs _ hu hf=>exact⟨fs.toList,by unfold fts;rw[hu],hf⟩
 |int _ k n hu _=>exact(no hu (by intro fs h;cases h)).elim
 |bool _ _ hu=>exact(no hu (by intro fs h;cases h)).elim
 |str _ _ hu=>exact(no hu (by intro fs h;cases h)).elim
 |slice _ _ _ hu=>exact(no hu (by intro fs h;cases h)).elim
 |array _ _ _ _ hu=>exact(no hu (by intro fs h;cases h)).elim
theorem yu{P:Program}{fs:List Field}{t:TypeId}{ts:List TypeId}{cs:List U}(h:ShpF P fs cs)(e:fs.map (·.type)=t::ts):∃gs xs ys,cs=xs++ys∧Shp P t xs∧ShpF P gs ys∧gs.map (·.type)=ts:=by
 cases h with
 |nil=>cases e
 |cons f fs xs ys h1 h2=>
  simp only[List.map_cons,List.cons.injEq]at e
  obtain⟨rfl,rfl⟩:=e
  exact⟨fs,xs,ys,rfl,h1,h2,rfl⟩
theorem shpF_nil{P:Program}{fs:List Field}{cs:List U}(h:ShpF P fs cs)(e:fs.map (·.type)=[]):cs=[]:=by
 cases h with
 |nil=>rfl
 |cons=>cases e
theorem zEi{cs:List U}(h:Shp Tryd.prog 24 cs):∃a b:Int,cs=[.int .i64 a,.int .i64 b]:=by
 obtain⟨fs,e,hf⟩:=zDp h (by rw[f24];simp)
 rw[f24]at e
 obtain⟨g1,a1,b1,rfl,k1,r1,e1⟩:=yu hf e
 obtain⟨g2,a2,b2,rfl,k2,r2,e2⟩:=yu r1 e1
 obtain rfl:=shpF_nil r2 e2
 obtain⟨x,rfl⟩:=zBe k1
 obtain⟨y,rfl⟩:=zBe k2
 exact⟨x,y,rfl⟩
theorem zEj{P:Program}{e:TypeId}{α:Type}{f:α→List U}{css:List (List U)}(h:ShpL P e css)(k:∀cs,Shp P e cs→∃q,cs=f q):∃l:List α,css=l.map f:=by
 induction css with
 |nil=>exact⟨[],rfl⟩
 |cons cs css ih=>
  cases h with
  |cons _ _ _ h1 h2=>
   obtain⟨q,rfl⟩:=k _ h1
   obtain⟨l,rfl⟩:=ih h2
   exact⟨q::l,rfl⟩
theorem zFC{P:Program}{t e:TypeId}{cs:List U}(hu:P.underlying t=some (.slice e))(h:Shp P t cs):∃css,ShpL P e css∧cs=[.lst .ro (P.cellsOf e) (css.map (eU P e))]:=by
 cases h with
 |slice _ e' css hu' hl=>rw[hu]at hu';cases hu';exact⟨css,hl,rfl⟩
 |int _ k n hu' _=>rw[hu]at hu';cases hu'
 |bool _ _ hu'=>rw[hu]at hu';cases hu'
 |str _ _ hu'=>rw[hu]at hu';cases hu'
 |struct _ _ _ hu'=>rw[hu]at hu';cases hu'
 |array _ _ _ _ hu'=>rw[hu]at hu';cases hu'
theorem eu68:∀cs,eU Tryd.prog 68 cs=.agg cs:=by
 obtain⟨fs,h⟩:=zDj (P:=Tryd.prog) (t:=68) 2 (by kernel_rfl)
 intro cs;unfold eU;rw[h]
theorem eu24:∀cs,eU Tryd.prog 24 cs=.agg cs:=by
 obtain⟨fs,h⟩:=zDj (P:=Tryd.prog) (t:=24) 2 (by kernel_rfl)
 intro cs;unfold eU;rw[h]
theorem eu3:∀cs,eU Tryd.prog 3 cs=cs.headD .junk:=by
 intro cs;unfold eU;rw[u3]
theorem map_ints{F:List U→U}(he:∀cs,F cs=cs.headD .junk)(l:List Int):(l.map fun n:Int=>[U.int .i64 n]).map F=zH l:=by
 rw[List.map_map]
 exact List.map_congr_left fun q _=>he _
theorem shp_ints{cs:List U}(h:Shp Tryd.prog 22 cs):∃l:List Int,cs=[.lst .ro 1 (zH l)]:=by
 obtain⟨css,hl,rfl⟩:=zFC u22 h
 obtain⟨l,rfl⟩:=zEj (f:=fun n:Int=>[.int .i64 n]) hl fun cs hcs=>zBe hcs
 refine⟨l,?_⟩
 rw[clq3,map_ints eu3]
theorem map_twos{F:List U→U}(he:∀cs,F cs=.agg cs)(l:List Two):(l.map fun q:Two=>[U.int .i64 q.a,.int .i64 q.b]).map F=yP l:=by
 rw[List.map_map]
 exact List.map_congr_left fun q _=>he _
theorem shp_spans{cs:List U}(h:Shp Tryd.prog 66 cs):∃l:List Two,cs=[.lst .ro 2 (yP l)]:=by
 obtain⟨css,hl,rfl⟩:=zFC u66 h
 obtain⟨l,rfl⟩:=zEj (f:=fun q:Two=>[.int .i64 q.a,.int .i64 q.b]) hl fun cs hcs=>by obtain⟨x,y,rfl⟩:=zEi hcs;exact⟨⟨x,y⟩,rfl⟩
 refine⟨l,?_⟩
 rw[clq24,map_twos eu24]
theorem shp_player{cs:List U}(h:Shp Tryd.prog 68 cs):∃p:Pl,cs=p.cs:=by
 obtain⟨fs,e,hf⟩:=zDp h (by rw[f68];simp)
 rw[f68]at e
 obtain⟨g1,a1,b1,rfl,k1,r1,e1⟩:=yu hf e
 obtain⟨g2,a2,b2,rfl,k2,r2,e2⟩:=yu r1 e1
 obtain rfl:=shpF_nil r2 e2
 obtain⟨x,y,rfl⟩:=zEi k1
 obtain⟨l,rfl⟩:=shp_spans k2
 exact⟨⟨x,y,l⟩,rfl⟩
theorem map_pls{F:List U→U}(he:∀cs,F cs=.agg cs)(l:List Pl):(l.map fun q:Pl=>q.cs).map F=plsU l:=by
 rw[List.map_map]
 exact List.map_congr_left fun q _=>he _
theorem shp_players{cs:List U}(h:Shp Tryd.prog 25 cs):∃l:List Pl,cs=[.lst .ro 3 (plsU l)]:=by
 obtain⟨css,hl,rfl⟩:=zFC u25 h
 obtain⟨l,rfl⟩:=zEj (f:=fun q:Pl=>q.cs) hl fun cs hcs=>shp_player hcs
 refine⟨l,?_⟩
 rw[clq68,map_pls eu68]
theorem shp_bk{cs:List U}(h:Shp Tryd.prog 27 cs):∃b:Bk,cs=b.cs:=by
 obtain⟨fs,e,hf⟩:=zDp h (by rw[f27];simp)
 rw[f27]at e
 obtain⟨g1,a1,b1,rfl,k1,r1,e1⟩:=yu hf e
 obtain⟨g2,a2,b2,rfl,k2,r2,e2⟩:=yu r1 e1
 obtain⟨g3,a3,b3,rfl,k3,r3,e3⟩:=yu r2 e2
 obtain⟨g4,a4,b4,rfl,k4,r4,e4⟩:=yu r3 e3
 obtain⟨g5,a5,b5,rfl,k5,r5,e5⟩:=yu r4 e4
 obtain⟨g6,a6,b6,rfl,k6,r6,e6⟩:=yu r5 e5
 obtain⟨g7,a7,b7,rfl,k7,r7,e7⟩:=yu r6 e6
 obtain⟨g8,a8,b8,rfl,k8,r8,e8⟩:=yu r7 e7
 obtain⟨g9,a9,b9,rfl,k9,r9,e9⟩:=yu r8 e8
 obtain rfl:=shpF_nil r9 e9
 obtain⟨parts,rfl⟩:=zBe k1
 obtain⟨size,rfl⟩:=zBe k2
 obtain⟨beats,rfl⟩:=shp_ints k3
 obtain⟨start,rfl⟩:=zBe k4
 obtain⟨fin,rfl⟩:=zBe k5
 obtain⟨tlo,thi,rfl⟩:=zEi k6
 obtain⟨slo,shi,rfl⟩:=zEi k7
 obtain⟨notice,rfl⟩:=zBe k8
 obtain⟨players,rfl⟩:=shp_players k9
 exact⟨⟨parts,size,beats,start,fin,tlo,thi,slo,shi,notice,players⟩,rfl⟩
theorem und27:∃fs,Tryd.prog.underlying 27=some (.struct fs):=zDj (P:=Tryd.prog) (t:=27) 9 (by kernel_rfl)
theorem arg_bk{u:U}(h:∃cs,u=.agg cs∧Shp Tryd.prog 27 cs):∃b:Bk,u=b.u:=by
 obtain⟨cs,rfl,h⟩:=h
 obtain⟨b,rfl⟩:=shp_bk h
 exact⟨b,rfl⟩
theorem arg_ints{u:U}(h:Shp Tryd.prog 22 [u]):∃l:List Int,u=.lst .ro 1 (zH l):=by
 obtain⟨l,e⟩:=shp_ints h
 cases e
 exact⟨l,rfl⟩
end
section
variable {is:FuncId→Bool}{orc:Known}
theorem u28:Tryd.prog.underlying 28=some (.array 2 3):=by kernel_rfl
theorem shp_arr{t n:Nat}(hu:Tryd.prog.underlying t=some (.array n 3)){cs:List U}(h:Shp Tryd.prog t cs):∃l:List Int,l.length=n∧cs=(l.map fun n:Int=>[U.int .i64 n]).flatten:=by
 cases h with
 |array _ n e css hu' hl hn=>
  rw[hu]at hu';cases hu'
  obtain⟨l,rfl⟩:=zEj (f:=fun n:Int=>[U.int .i64 n]) hl fun cs hcs=>zBe hcs
  rw[List.length_map]at hn
  exact⟨l,hn,rfl⟩
 |int _ k n hu' _=>rw[hu]at hu';cases hu'
 |bool _ _ hu'=>rw[hu]at hu';cases hu'
 |str _ _ hu'=>rw[hu]at hu';cases hu'
 |slice _ _ _ hu'=>rw[hu]at hu';cases hu'
 |struct _ _ _ hu'=>rw[hu]at hu';cases hu'
theorem arg_two{u:U}(h:∃cs,u=.agg cs∧Shp Tryd.prog 28 cs):∃a b:Int,u=.agg [.int .i64 a,.int .i64 b]:=by
 obtain⟨cs,rfl,h⟩:=h
 obtain⟨l,hl,rfl⟩:=shp_arr u28 h
 match l,hl with
 |[a,b],_=>exact⟨a,b,rfl⟩
end
section
variable {is:FuncId→Bool}{orc:Known}
theorem ret9_all(hi:Off is)(r24:RetP Tryd.prog is orc 24 [] (.bool true)):∀us,ShpAs Tryd.prog [27,22,28] us→RetP Tryd.prog is orc 9 us (.bool true):=by
 intro us h
 cases h with
 |cons _ _ u us h1 h=>cases h with
 |cons _ _ v us h2 h=>cases h with
 |cons _ _ x us h3 h=>
 cases h
 obtain⟨fs,hu⟩:=und27
 unfold ShpA at h1 h2 h3
 rw[hu]at h1
 rw[u22]at h2
 rw[u28]at h3
 obtain⟨b,rfl⟩:=arg_bk h1
 obtain⟨l,rfl⟩:=arg_ints h2
 obtain⟨n0,n1,rfl⟩:=arg_two h3
 exact ret9 hi b l n0 n1 r24
end
end Go.Proofs.YtfbmlibilcjlgaaDoor.drumEnds
