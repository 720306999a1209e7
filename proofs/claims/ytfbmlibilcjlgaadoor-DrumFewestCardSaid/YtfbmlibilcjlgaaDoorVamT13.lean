import Derived.Test.YtfbmlibilcjlgaaDoorVamT12
set_option linter.unusedVariables false
set_option linter.unusedSimpArgs false
set_option linter.constructorNameAsVariable false
namespace Go.Proofs.YtfbmlibilcjlgaaDoor.drumFewest
open Vam
section
variable {is:FuncId→Bool}{orc:Known}
noncomputable def b10:Code:=(Tryd.f10.body).getD .skip
theorem body10:bodyOf Tryd.prog 10=some (96,b10,[.tmp 4]):=by kernel_rfl
theorem pure10:pureFn Tryd.prog 10=true:=by kernel_rfl
theorem lat_nil{f:Nat→Int}:∀n,latS f n=[]↔ ∀i,i<n→f i≤0:=by
 intro n
 constructor
 ·intro h i hi
  by_cases hf:0<f i
  ·have:=(mem_lat (f:=f) (n:=n) (i:=i)).2 ⟨hi,hf⟩
   rw[h]at this;cases this
  ·omega
 ·intro h
  cases hl:latS f n with
  |nil=>rfl
  |cons x l=>
   have hx:x∈latS f n:=by rw[hl];exact List.mem_cons_self
   have hb:=lat_lt x hx
   obtain⟨i,rfl⟩:∃i:Nat,x=i:=⟨x.toNat,by omega⟩
   have:=mem_lat.1 hx
   have:=h i this.1
   omega
theorem zero_lat{b:Bk}(hb:BOk b){L:List Int}(hL:∀x∈L,0≤x∧x≤3)(N:Nat):zeroB (aftF b true L N)=decide ((latS (aftF b true L N) b.players.length).length=0):=by
 have hpn:=hb.pn
 have hz:∀i,0≤aftF b true L N i∧(b.players.length≤i→aftF b true L N i=0):=fun i=>by
  unfold aftF
  constructor
  ·cases hp:b.players[i]? with
   |none=>exact Int.le_refl _
   |some p=>exact(aft_b hb true L hL (pl_ok hb hp) N).1
  ·intro h;rw[List.getElem?_eq_none h]
 generalize aftF b true L N=f at*
 have e:(latS f b.players.length).length=0↔ ∀i,i<b.players.length→f i≤0:=by rw[List.length_eq_zero_iff];exact lat_nil _
 have k:(f 0=0∧f 1=0∧f 2=0∧f 3=0∧f 4=0)↔ ∀i,i<b.players.length→f i≤0:=by
  constructor
  ·intro h i hi
   have hi5:i=0∨i=1∨i=2∨i=3∨i=4:=by omega
   rcases hi5 with rfl|rfl|rfl|rfl|rfl<;>omega
  ·intro h
   have g:∀i,f i=0:=fun i=>by
    have h1:=hz i
    by_cases hi:i<b.players.length
    ·have:=h i hi;omega
    ·exact h1.2 (by omega)
   exact⟨g 0,g 1,g 2,g 3,g 4⟩
 have d:decide (f 0=0∧f 1=0∧f 2=0∧f 3=0∧f 4=0)=decide ((latS f b.players.length).length=0):=decide_eq_decide.2 (k.trans e.symm)
 unfold zeroB
 rw[←d]
 simp only[Bool.decide_and]
set_option maxHeartbeats 16000000 in
set_option maxRecDepth 20000 in
theorem ret10(hi:Off is)(b:Bk)(bits:List Int)(r24:RetP Tryd.prog is orc 24 [] (.bool true)):RetP Tryd.prog is orc 10 [b.u,.lst .ro 1 (zE bits)] (.bool true):=by
 have q38:=ret38 (orc:=orc) hi b
 refine yG body10 pure10 (hi 10 (by decide)) rfl rfl (yg (yl b 4) (zh 6 .ro (fun h=>by cases h) 1 bits)) (.inl (.bool _ _)) ?_
 cases hv:zDW b with
 |false=>
  rw[hv]at q38
  refine kQ (yC rfl rfl (zC rfl (zA ?_)))
  refine zO [(1,.lst .ro 1 (zE bits)),(2,U.box 0 0)] ([SB.box [.int .i64 (Bk.parts b),.int .i64 (Bk.size b),.lst .ro 1 (zE (Bk.beats b)),.int .i64 (Bk.start b),.int .i64 (Bk.fin b),.int .i64 (Bk.tlo b),.int .i64 (Bk.thi b),.int .i64 (Bk.slo b),.int .i64 (Bk.shi b),.int .i64 (Bk.notice b),.lst .ro 3 (plsU (Bk.players b))]]) (.cons rfl (.cons rfl (.nil rfl))) rfl fun fr=>?_
  refine k_seq (kQ (zK rfl rfl rfl sh27 rfl (zM rfl (q38) (.lrefl _) (wL rfl rfl (zA (k_cT rfl rfl ?_))))))
  refine kQ (zM rfl (r24) (.lrefl _) (zC rfl (zA (zZ ?_))))
  refine⟨.inr rfl,_,.cons _ _ _ _ (.tmp 4) .nil,?_⟩
  exact .refl _
 |true=>
  rw[hv]at q38
  have h:=(zCP b).1 hv
  have hpa:=h.pa
  have q43:=ret43 (orc:=orc) hi h bits
  have hok:=chol_ok h bits
  generalize choL b bits b.parts.toNat=L at*
  have hlen:=hok.len
  have q21:=ret21 (orc:=orc) hi h hok
  have q25:=ret25 (orc:=orc) hi h hok
  have q27:=ret27 (orc:=orc) hi h
  have q41:=ret41 (orc:=orc) hi h hok.rg (by omega)
  have q40:=ret40 (orc:=orc) hi b.tlo b.thi (zBB b L L.length)
  have q49:=ret49g (orc:=orc) hi (L:=L) (by omega)
  have hz:=zero_lat h hok.rg (b.parts*b.size).toNat
  obtain⟨x,hx,hxr⟩:=at_ok hok (q:=b.parts.toNat - 1) (by omega)
  have hx2:L[((L.length:Int) - 1).toNat]? =some x:=by rw[show((L.length:Int) - 1).toNat=b.parts.toNat - 1 by omega];exact hx
  have hpl:planB b L=(decide (x=b.fin)&&(inS b.tlo b.thi (zBB b L L.length)&&decide ((latS (aftF b true L (b.parts*b.size).toNat) b.players.length).length=0))):=by
   unfold planB;rw[hx,hz];rfl
  have hmem:=zFj h (L:=L)
  have hbs:=best_spec h
  have hbp:zx (zu b)∈zu b→1≤(zx (zu b)).length∧(zx (zu b)).length≤8:=fun hm=>by
   have:=((zFj h).1 hm).1.len;omega
  generalize latS (aftF b true L (b.parts*b.size).toNat) b.players.length=A at*
  generalize zBB b L L.length=la at*
  generalize inS b.tlo b.thi la=z2 at*
  by_cases c1:x=b.fin
  ·rw[decide_eq_true c1,Bool.true_and]at hpl
   cases z2 with
   |false=>
    rw[Bool.false_and]at hpl
    rw[hpl]at q25
    refine kQ (yC rfl rfl (zC rfl (zA ?_)))
    refine zO [(1,.lst .ro 1 (zE bits)),(2,U.box 0 0)] ([SB.box [.int .i64 (Bk.parts b),.int .i64 (Bk.size b),.lst .ro 1 (zE (Bk.beats b)),.int .i64 (Bk.start b),.int .i64 (Bk.fin b),.int .i64 (Bk.tlo b),.int .i64 (Bk.thi b),.int .i64 (Bk.slo b),.int .i64 (Bk.shi b),.int .i64 (Bk.notice b),.lst .ro 3 (plsU (Bk.players b))]]) (.cons rfl (.cons rfl (.nil rfl))) rfl fun fr=>?_
    refine k_seq (kQ (zK rfl rfl rfl sh27 rfl (zM rfl (q38) (.lrefl _) (wL rfl rfl (zA (k_cF rfl rfl ?_))))))
    refine zR (kQ (zK rfl rfl rfl sh27 rfl (zB rfl (zM rfl (q43) (.lrefl _) (zC rfl (zA (kQ (zK rfl rfl rfl sh27 rfl ?_))))))))
    refine zB rfl (zM rfl (q25) (.lrefl _) (zB rfl (zS rfl rfl rfl (zS rfl rfl rfl (zC rfl (zC rfl (zA ?_)))))))
    refine zO [(2,U.box 0 0),(5,.lst .ro 1 (zE L)),(6,.bool false),(7,.int .i64 0)] ([SB.box [.int .i64 (Bk.parts b),.int .i64 (Bk.size b),.lst .ro 1 (zE (Bk.beats b)),.int .i64 (Bk.start b),.int .i64 (Bk.fin b),.int .i64 (Bk.tlo b),.int .i64 (Bk.thi b),.int .i64 (Bk.slo b),.int .i64 (Bk.shi b),.int .i64 (Bk.notice b),.lst .ro 3 (plsU (Bk.players b))]]) (.c4 rfl rfl rfl rfl (.nil rfl)) rfl fun fr=>?_
    refine kQ (zK rfl rfl rfl sh27 rfl (zB rfl (zM rfl (q21) (.lrefl _) (zB rfl (zS rfl rfl rfl (zS rfl rfl rfl (zC rfl (zC rfl ?_))))))))
    refine zA (kQ (zK rfl rfl rfl sh27 rfl (zM rfl (q27) (.lrefl _) (zB rfl (zS rfl rfl rfl (zS rfl rfl rfl (zC rfl (zC rfl ?_))))))))
    refine zA ?_
    refine zO [(2,U.box 0 0),(5,.lst .ro 1 (zE L)),(6,.bool false),(7,.int .i64 0),(8,.lst .ro 1 (zE A)),(9,.int .i64 0),(10,.lst .ro 1 (zE (zx (zu b)))),(11,.int .i64 (if zx (zu b)=[]then(4:Int)else(0:Int)))] ([SB.box [.int .i64 (Bk.parts b),.int .i64 (Bk.size b),.lst .ro 1 (zE (Bk.beats b)),.int .i64 (Bk.start b),.int .i64 (Bk.fin b),.int .i64 (Bk.tlo b),.int .i64 (Bk.thi b),.int .i64 (Bk.slo b),.int .i64 (Bk.shi b),.int .i64 (Bk.notice b),.lst .ro 3 (plsU (Bk.players b))]]) (.c4 rfl rfl rfl rfl (.c4 rfl rfl rfl rfl (.nil rfl))) rfl fun fr=>?_
    refine k_seq (k_seq (yw [.plain,.plain,.plain,.plain,.plain,.plain,.plain,.plain,.plain,.plain,.read true,.plain,.plain,.read true,.plain,.read true,.plain,.plain,.plain,.read true,.read true,.plain,.read false,.plain,.plain,.plain,.plain,.plain,.plain,.plain,.plain,.plain] (by kernel_rfl) (by kernel_rfl) (by kernel_rfl) ?_))
    refine zD (zB rfl (zA rfl)) (zD (zAI rfl rfl rfl (zA rfl)) ?_)
    refine zD (zB rfl (zA rfl)) (d_gD rfl rfl rfl rfl rfl (zD (zB rfl (zA rfl)) (d_gD rfl rfl rfl rfl rfl (zD (zAI rfl rfl rfl (zA rfl)) ?_))))
    refine zD (zP rfl rfl rfl (zA rfl)) ?_
    refine zD (zB rfl (zA rfl)) (d_gD rfl rfl rfl rfl rfl (zD (zB rfl (zA rfl)) (d_gD rfl rfl rfl rfl rfl (zD (zB rfl (zA rfl)) ?_))))
    refine yO [(2,U.box 0 0),(5,.lst .ro 1 (zE L)),(6,.bool false),(8,.lst .ro 1 (zE A)),(10,.lst .ro 1 (zE (zx (zu b)))),(11,.int .i64 (if zx (zu b)=[]then(4:Int)else(0:Int))),(42,U.bool (decide ((0:Int)≠(0:Int)))),(43,.bool false),(44,.lst .ro 1 (zE L))] [] ([SB.box [.int .i64 (Bk.parts b),.int .i64 (Bk.size b),.lst .ro 1 (zE (Bk.beats b)),.int .i64 (Bk.start b),.int .i64 (Bk.fin b),.int .i64 (Bk.tlo b),.int .i64 (Bk.thi b),.int .i64 (Bk.slo b),.int .i64 (Bk.shi b),.int .i64 (Bk.notice b),.lst .ro 3 (plsU (Bk.players b))]]) (.c4 rfl rfl rfl rfl (.c4 rfl rfl rfl rfl (.cons rfl (.nil rfl)))) rfl rfl fun fr=>?_
    refine d_gD rfl rfl rfl rfl rfl ?_
    refine yO [(2,U.box 0 0),(5,.lst .ro 1 (zE L)),(6,.bool false),(8,.lst .ro 1 (zE A)),(10,.lst .ro 1 (zE (zx (zu b)))),(11,.int .i64 (if zx (zu b)=[]then(4:Int)else(0:Int))),(42,U.bool (decide ((0:Int)≠(0:Int)))),(43,.bool false),(44,.lst .ro 1 (zE L))] [] ([SB.box [.int .i64 (Bk.parts b),.int .i64 (Bk.size b),.lst .ro 1 (zE (Bk.beats b)),.int .i64 (Bk.start b),.int .i64 (Bk.fin b),.int .i64 (Bk.tlo b),.int .i64 (Bk.thi b),.int .i64 (Bk.slo b),.int .i64 (Bk.shi b),.int .i64 (Bk.notice b),.lst .ro 3 (plsU (Bk.players b))]]) (.c4 rfl rfl rfl rfl (.c4 rfl rfl rfl rfl (.cons rfl (.nil rfl)))) rfl rfl fun fr=>?_
    refine zD (zB rfl (zA rfl)) (d_gD rfl rfl rfl rfl rfl (zb rfl (yA rfl ty22 rfl (List.length_map _) (zA rfl)) ?_))
    refine d_gD rfl rfl rfl rfl rfl ?_
    refine zD (zBG rfl rfl rfl (by unfold I64;omega) (zA rfl)) ?_
    refine d_gD rfl rfl rfl rfl rfl ?_
    refine zD (yx (u:=.int .i64 x) rfl ty22 rfl rfl (by omega) (by rw[List.getElem?_map,hx2];rfl) cl3 (zA rfl)) ?_
    refine d_gD rfl rfl rfl rfl rfl (zb rfl (zj rfl rfl sh3 rfl (zA rfl)) ?_)
    refine d_gD rfl rfl rfl rfl rfl (zD (zF rfl rfl zCe (zA rfl)) ?_)
    refine d_gD rfl rfl rfl rfl rfl (zb rfl (zG rfl rfl rfl sh3 rfl (zA rfl)) (d_gD rfl rfl rfl rfl rfl (zD (wt rfl rfl rfl (zA rfl)) ?_)))
    refine d_gD rfl rfl rfl rfl rfl (zD (zB rfl (zA rfl)) ?_)
    refine yO [(2,U.box 0 0),(5,.lst .ro 1 (zE L)),(6,.bool false),(8,.lst .ro 1 (zE A)),(10,.lst .ro 1 (zE (zx (zu b)))),(11,.int .i64 (if zx (zu b)=[]then(4:Int)else(0:Int))),(42,U.bool (decide ((0:Int)≠(0:Int)))),(43,.bool false),(53,U.bool (decide (x=Bk.fin b)))] [] ([SB.box [.int .i64 (Bk.parts b),.int .i64 (Bk.size b),.lst .ro 1 (zE (Bk.beats b)),.int .i64 (Bk.start b),.int .i64 (Bk.fin b),.int .i64 (Bk.tlo b),.int .i64 (Bk.thi b),.int .i64 (Bk.slo b),.int .i64 (Bk.shi b),.int .i64 (Bk.notice b),.lst .ro 3 (plsU (Bk.players b))]]) (.c4 rfl rfl rfl rfl (.c4 rfl rfl rfl rfl (.cons rfl (.nil rfl)))) rfl rfl fun fr=>?_
    refine d_gD rfl rfl rfl rfl (decide_eq_true (by omega)) ?_
    refine yO [(2,U.box 0 0),(5,.lst .ro 1 (zE L)),(6,.bool false),(8,.lst .ro 1 (zE A)),(10,.lst .ro 1 (zE (zx (zu b)))),(11,.int .i64 (if zx (zu b)=[]then(4:Int)else(0:Int))),(42,U.bool (decide ((0:Int)≠(0:Int)))),(43,.bool false),(53,U.bool (decide (x=Bk.fin b)))] [] ([SB.box [.int .i64 (Bk.parts b),.int .i64 (Bk.size b),.lst .ro 1 (zE (Bk.beats b)),.int .i64 (Bk.start b),.int .i64 (Bk.fin b),.int .i64 (Bk.tlo b),.int .i64 (Bk.thi b),.int .i64 (Bk.slo b),.int .i64 (Bk.shi b),.int .i64 (Bk.notice b),.lst .ro 3 (plsU (Bk.players b))]]) (.c4 rfl rfl rfl rfl (.c4 rfl rfl rfl rfl (.cons rfl (.nil rfl)))) rfl rfl fun fr=>?_
    refine zD (zF rfl rfl zDT (zA rfl)) ?_
    refine d_gD rfl rfl rfl rfl (decide_eq_true (by omega)) ?_
    refine zb rfl (zK rfl rfl rfl sh24 rfl (zA rfl)) ?_
    refine d_gD rfl rfl rfl rfl (decide_eq_true (by omega)) ?_
    refine zb rfl (zK rfl rfl rfl sh27 rfl (zA rfl)) ?_
    refine d_gD rfl rfl rfl rfl (decide_eq_true (by omega)) ?_
    refine zD (zB rfl (zA rfl)) (d_gD rfl rfl rfl rfl (decide_eq_true (by omega)) ?_)
    refine zAT rfl (q41) (.int _ _) (.lrefl _) ?_
    refine d_gD rfl rfl rfl rfl (decide_eq_true (by omega)) ?_
    refine zD (zM rfl (q40) (.lrefl _) (zA rfl)) ?_
    refine d_gD rfl rfl rfl rfl rfl (zD (zT rfl rfl (decide_eq_true (by omega)) (zA rfl)) ?_)
    refine d_gD rfl rfl rfl rfl rfl (zD (zB rfl (zA rfl)) (d_gS rfl rfl rfl rfl rfl ?_))
    refine yO [(5,.lst .ro 1 (zE L)),(6,.bool false),(10,.lst .ro 1 (zE (zx (zu b)))),(11,.int .i64 (if zx (zu b)=[]then(4:Int)else(0:Int))),(42,U.bool (decide ((0:Int)≠(0:Int)))),(43,.bool false),(61,.bool false),(62,U.tup [])] [] ([SB.box [.int .i64 (Bk.parts b),.int .i64 (Bk.size b),.lst .ro 1 (zE (Bk.beats b)),.int .i64 (Bk.start b),.int .i64 (Bk.fin b),.int .i64 (Bk.tlo b),.int .i64 (Bk.thi b),.int .i64 (Bk.slo b),.int .i64 (Bk.shi b),.int .i64 (Bk.notice b),.lst .ro 3 (plsU (Bk.players b))]]) (.c4 rfl rfl rfl rfl (.c4 rfl rfl rfl rfl (.nil rfl))) rfl rfl fun fr=>?_
    refine d_gS rfl rfl rfl rfl rfl (d_gS rfl rfl rfl rfl rfl (d_gD rfl rfl rfl rfl rfl (zD (zP rfl rfl rfl (zA rfl)) ?_)))
    refine d_gD rfl rfl rfl rfl rfl (zD (o_neqB rfl ty4 rfl rfl (zA rfl)) ?_)
    refine zD (zP rfl rfl rfl (zA rfl)) ?_
    refine zAG ?_
    refine zO [(5,.lst .ro 1 (zE L)),(6,.bool false),(10,.lst .ro 1 (zE (zx (zu b)))),(11,.int .i64 (if zx (zu b)=[]then(4:Int)else(0:Int))),(67,U.bool (decide (Bool.false≠Bool.false)))] ([SB.box [.int .i64 (Bk.parts b),.int .i64 (Bk.size b),.lst .ro 1 (zE (Bk.beats b)),.int .i64 (Bk.start b),.int .i64 (Bk.fin b),.int .i64 (Bk.tlo b),.int .i64 (Bk.thi b),.int .i64 (Bk.slo b),.int .i64 (Bk.shi b),.int .i64 (Bk.notice b),.lst .ro 3 (plsU (Bk.players b))]]) (.c4 rfl rfl rfl rfl (.cons rfl (.nil rfl))) rfl fun fr=>?_
    refine k_cF rfl rfl ?_
    refine zR (k_seq (kQ (zB rfl (wL rfl rfl (zA (k_cT rfl rfl ?_))))))
    refine kQ (zM rfl (r24) (.lrefl _) (zC rfl (zA (zZ ?_))))
    refine⟨.inr rfl,_,.cons _ _ _ _ (.tmp 4) .nil,?_⟩
    exact .refl _
   |true=>
    rw[Bool.true_and]at hpl
    by_cases c3:A.length=0
    ·rw[decide_eq_true c3]at hpl
     rw[hpl]at q25
     have hm:=hmem.2 ⟨hok,hpl⟩
     rcases hbs with ⟨h1,_⟩|⟨h1,h2⟩
     ·rw[h1]at hm;cases hm
     have hb8:=hbp h1
     have h3:=h2 L hm
     have k67:decide (true≠decide ((A.length:Int)=0))=false:=by rw[decide_eq_true (show(A.length:Int)=0 by omega)];rfl
     have q49b:=ret49g (orc:=orc) hi (L:=zx (zu b)) (by omega)
     have q50:=ret50 (orc:=orc) hi L (zx (zu b)) (by omega) (by omega)
     rw[if_neg (by intro e;rw[e]at hb8;simp at hb8)]at q27
     generalize zx (zu b)=B at*
     generalize chg B=cb at*
     generalize chg L=cl at*
     by_cases hlt:cb<cl
     ·refine kQ ?_
      refine yC rfl rfl (zC rfl (zA ?_))
      refine zO [(1,.lst .ro 1 (zE bits)),(2,U.box 0 0)] ([SB.box [.int .i64 (Bk.parts b),.int .i64 (Bk.size b),.lst .ro 1 (zE (Bk.beats b)),.int .i64 (Bk.start b),.int .i64 (Bk.fin b),.int .i64 (Bk.tlo b),.int .i64 (Bk.thi b),.int .i64 (Bk.slo b),.int .i64 (Bk.shi b),.int .i64 (Bk.notice b),.lst .ro 3 (plsU (Bk.players b))]]) (.cons rfl (.cons rfl (.nil rfl))) rfl fun fr=>?_
      refine k_seq (kQ (zK rfl rfl rfl sh27 rfl (zM rfl (q38) (.lrefl _) (wL rfl rfl (zA (k_cF rfl rfl ?_))))))
      refine zR (kQ (zK rfl rfl rfl sh27 rfl (zB rfl (zM rfl (q43) (.lrefl _) (zC rfl (zA (kQ (zK rfl rfl rfl sh27 rfl ?_))))))))
      refine zB rfl (zM rfl (q25) (.lrefl _) (zB rfl (zS rfl rfl rfl (zS rfl rfl rfl (zC rfl (zC rfl (zA ?_)))))))
      refine zO [(2,U.box 0 0),(5,.lst .ro 1 (zE L)),(6,.bool true),(7,.int .i64 0)] ([SB.box [.int .i64 (Bk.parts b),.int .i64 (Bk.size b),.lst .ro 1 (zE (Bk.beats b)),.int .i64 (Bk.start b),.int .i64 (Bk.fin b),.int .i64 (Bk.tlo b),.int .i64 (Bk.thi b),.int .i64 (Bk.slo b),.int .i64 (Bk.shi b),.int .i64 (Bk.notice b),.lst .ro 3 (plsU (Bk.players b))]]) (.c4 rfl rfl rfl rfl (.nil rfl)) rfl fun fr=>?_
      refine kQ (zK rfl rfl rfl sh27 rfl (zB rfl (zM rfl (q21) (.lrefl _) (zB rfl (zS rfl rfl rfl (zS rfl rfl rfl (zC rfl (zC rfl ?_))))))))
      refine zA (kQ (zK rfl rfl rfl sh27 rfl (zM rfl (q27) (.lrefl _) (zB rfl (zS rfl rfl rfl (zS rfl rfl rfl (zC rfl (zC rfl ?_))))))))
      refine zA ?_
      refine zO [(2,U.box 0 0),(5,.lst .ro 1 (zE L)),(6,.bool true),(7,.int .i64 0),(8,.lst .ro 1 (zE A)),(9,.int .i64 0),(10,.lst .ro 1 (zE B)),(11,.int .i64 0)] ([SB.box [.int .i64 (Bk.parts b),.int .i64 (Bk.size b),.lst .ro 1 (zE (Bk.beats b)),.int .i64 (Bk.start b),.int .i64 (Bk.fin b),.int .i64 (Bk.tlo b),.int .i64 (Bk.thi b),.int .i64 (Bk.slo b),.int .i64 (Bk.shi b),.int .i64 (Bk.notice b),.lst .ro 3 (plsU (Bk.players b))]]) (.c4 rfl rfl rfl rfl (.c4 rfl rfl rfl rfl (.nil rfl))) rfl fun fr=>?_
      refine k_seq (k_seq (yw [.plain,.plain,.plain,.plain,.plain,.plain,.plain,.plain,.plain,.plain,.read true,.plain,.plain,.read true,.plain,.read true,.plain,.plain,.plain,.read true,.read true,.plain,.read false,.plain,.plain,.plain,.plain,.plain,.plain,.plain,.plain,.plain] (by kernel_rfl) (by kernel_rfl) (by kernel_rfl) ?_))
      refine zD (zB rfl (zA rfl)) (zD (zAI rfl rfl rfl (zA rfl)) ?_)
      refine zD (zB rfl (zA rfl)) (d_gD rfl rfl rfl rfl rfl (zD (zB rfl (zA rfl)) (d_gD rfl rfl rfl rfl rfl (zD (zAI rfl rfl rfl (zA rfl)) ?_))))
      refine zD (zP rfl rfl rfl (zA rfl)) ?_
      refine zD (zB rfl (zA rfl)) (d_gD rfl rfl rfl rfl rfl (zD (zB rfl (zA rfl)) (d_gD rfl rfl rfl rfl rfl (zD (zB rfl (zA rfl)) ?_))))
      refine yO [(2,U.box 0 0),(5,.lst .ro 1 (zE L)),(6,.bool true),(8,.lst .ro 1 (zE A)),(10,.lst .ro 1 (zE B)),(11,.int .i64 0),(42,U.bool (decide ((0:Int)≠(0:Int)))),(43,.bool true),(44,.lst .ro 1 (zE L))] [] ([SB.box [.int .i64 (Bk.parts b),.int .i64 (Bk.size b),.lst .ro 1 (zE (Bk.beats b)),.int .i64 (Bk.start b),.int .i64 (Bk.fin b),.int .i64 (Bk.tlo b),.int .i64 (Bk.thi b),.int .i64 (Bk.slo b),.int .i64 (Bk.shi b),.int .i64 (Bk.notice b),.lst .ro 3 (plsU (Bk.players b))]]) (.c4 rfl rfl rfl rfl (.c4 rfl rfl rfl rfl (.cons rfl (.nil rfl)))) rfl rfl fun fr=>?_
      refine d_gD rfl rfl rfl rfl rfl ?_
      refine yO [(2,U.box 0 0),(5,.lst .ro 1 (zE L)),(6,.bool true),(8,.lst .ro 1 (zE A)),(10,.lst .ro 1 (zE B)),(11,.int .i64 0),(42,U.bool (decide ((0:Int)≠(0:Int)))),(43,.bool true),(44,.lst .ro 1 (zE L))] [] ([SB.box [.int .i64 (Bk.parts b),.int .i64 (Bk.size b),.lst .ro 1 (zE (Bk.beats b)),.int .i64 (Bk.start b),.int .i64 (Bk.fin b),.int .i64 (Bk.tlo b),.int .i64 (Bk.thi b),.int .i64 (Bk.slo b),.int .i64 (Bk.shi b),.int .i64 (Bk.notice b),.lst .ro 3 (plsU (Bk.players b))]]) (.c4 rfl rfl rfl rfl (.c4 rfl rfl rfl rfl (.cons rfl (.nil rfl)))) rfl rfl fun fr=>?_
      refine zD (zB rfl (zA rfl)) (d_gD rfl rfl rfl rfl rfl (zb rfl (yA rfl ty22 rfl (List.length_map _) (zA rfl)) ?_))
      refine d_gD rfl rfl rfl rfl rfl ?_
      refine zD (zBG rfl rfl rfl (by unfold I64;omega) (zA rfl)) ?_
      refine d_gD rfl rfl rfl rfl rfl ?_
      refine zD (yx (u:=.int .i64 x) rfl ty22 rfl rfl (by omega) (by rw[List.getElem?_map,hx2];rfl) cl3 (zA rfl)) ?_
      refine d_gD rfl rfl rfl rfl rfl (zb rfl (zj rfl rfl sh3 rfl (zA rfl)) ?_)
      refine d_gD rfl rfl rfl rfl rfl (zD (zF rfl rfl zCe (zA rfl)) ?_)
      refine d_gD rfl rfl rfl rfl rfl (zb rfl (zG rfl rfl rfl sh3 rfl (zA rfl)) (d_gD rfl rfl rfl rfl rfl (zD (wt rfl rfl rfl (zA rfl)) ?_)))
      refine d_gD rfl rfl rfl rfl rfl (zD (zB rfl (zA rfl)) ?_)
      refine yO [(2,U.box 0 0),(5,.lst .ro 1 (zE L)),(6,.bool true),(8,.lst .ro 1 (zE A)),(10,.lst .ro 1 (zE B)),(11,.int .i64 0),(42,U.bool (decide ((0:Int)≠(0:Int)))),(43,.bool true),(53,U.bool (decide (x=Bk.fin b)))] [] ([SB.box [.int .i64 (Bk.parts b),.int .i64 (Bk.size b),.lst .ro 1 (zE (Bk.beats b)),.int .i64 (Bk.start b),.int .i64 (Bk.fin b),.int .i64 (Bk.tlo b),.int .i64 (Bk.thi b),.int .i64 (Bk.slo b),.int .i64 (Bk.shi b),.int .i64 (Bk.notice b),.lst .ro 3 (plsU (Bk.players b))]]) (.c4 rfl rfl rfl rfl (.c4 rfl rfl rfl rfl (.cons rfl (.nil rfl)))) rfl rfl fun fr=>?_
      refine d_gD rfl rfl rfl rfl (decide_eq_true (by omega)) ?_
      refine yO [(2,U.box 0 0),(5,.lst .ro 1 (zE L)),(6,.bool true),(8,.lst .ro 1 (zE A)),(10,.lst .ro 1 (zE B)),(11,.int .i64 0),(42,U.bool (decide ((0:Int)≠(0:Int)))),(43,.bool true),(53,U.bool (decide (x=Bk.fin b)))] [] ([SB.box [.int .i64 (Bk.parts b),.int .i64 (Bk.size b),.lst .ro 1 (zE (Bk.beats b)),.int .i64 (Bk.start b),.int .i64 (Bk.fin b),.int .i64 (Bk.tlo b),.int .i64 (Bk.thi b),.int .i64 (Bk.slo b),.int .i64 (Bk.shi b),.int .i64 (Bk.notice b),.lst .ro 3 (plsU (Bk.players b))]]) (.c4 rfl rfl rfl rfl (.c4 rfl rfl rfl rfl (.cons rfl (.nil rfl)))) rfl rfl fun fr=>?_
      refine zD (zF rfl rfl zDT (zA rfl)) ?_
      refine d_gD rfl rfl rfl rfl (decide_eq_true (by omega)) ?_
      refine zb rfl (zK rfl rfl rfl sh24 rfl (zA rfl)) ?_
      refine d_gD rfl rfl rfl rfl (decide_eq_true (by omega)) ?_
      refine zb rfl (zK rfl rfl rfl sh27 rfl (zA rfl)) ?_
      refine d_gD rfl rfl rfl rfl (decide_eq_true (by omega)) ?_
      refine zD (zB rfl (zA rfl)) (d_gD rfl rfl rfl rfl (decide_eq_true (by omega)) ?_)
      refine zAT rfl (q41) (.int _ _) (.lrefl _) ?_
      refine d_gD rfl rfl rfl rfl (decide_eq_true (by omega)) ?_
      refine zD (zM rfl (q40) (.lrefl _) (zA rfl)) ?_
      refine d_gD rfl rfl rfl rfl rfl (zD (zT rfl rfl (decide_eq_true (by omega)) (zA rfl)) ?_)
      refine d_gD rfl rfl rfl rfl rfl (zD (zB rfl (zA rfl)) (d_gD rfl rfl rfl rfl rfl (zD (zB rfl (zA rfl)) ?_)))
      refine yO [(5,.lst .ro 1 (zE L)),(6,.bool true),(10,.lst .ro 1 (zE B)),(11,.int .i64 0),(42,U.bool (decide ((0:Int)≠(0:Int)))),(43,.bool true),(61,.bool true),(62,.lst .ro 1 (zE A))] [] ([SB.box [.int .i64 (Bk.parts b),.int .i64 (Bk.size b),.lst .ro 1 (zE (Bk.beats b)),.int .i64 (Bk.start b),.int .i64 (Bk.fin b),.int .i64 (Bk.tlo b),.int .i64 (Bk.thi b),.int .i64 (Bk.slo b),.int .i64 (Bk.shi b),.int .i64 (Bk.notice b),.lst .ro 3 (plsU (Bk.players b))]]) (.c4 rfl rfl rfl rfl (.c4 rfl rfl rfl rfl (.nil rfl))) rfl rfl fun fr=>?_
      refine d_gD rfl rfl rfl rfl rfl ?_
      refine yO [(5,.lst .ro 1 (zE L)),(6,.bool true),(10,.lst .ro 1 (zE B)),(11,.int .i64 0),(42,U.bool (decide ((0:Int)≠(0:Int)))),(43,.bool true),(61,.bool true),(62,.lst .ro 1 (zE A))] [] ([SB.box [.int .i64 (Bk.parts b),.int .i64 (Bk.size b),.lst .ro 1 (zE (Bk.beats b)),.int .i64 (Bk.start b),.int .i64 (Bk.fin b),.int .i64 (Bk.tlo b),.int .i64 (Bk.thi b),.int .i64 (Bk.slo b),.int .i64 (Bk.shi b),.int .i64 (Bk.notice b),.lst .ro 3 (plsU (Bk.players b))]]) (.c4 rfl rfl rfl rfl (.c4 rfl rfl rfl rfl (.nil rfl))) rfl rfl fun fr=>?_
      refine zD (yA rfl ty22 rfl (List.length_map _) (zA rfl)) ?_
      refine d_gD rfl rfl rfl rfl rfl (zD (wt rfl rfl rfl (zA rfl)) ?_)
      refine d_gD rfl rfl rfl rfl rfl (zD (zT rfl rfl rfl (zA rfl)) ?_)
      refine d_gD rfl rfl rfl rfl rfl (zD (o_neqB rfl ty4 rfl rfl (zA rfl)) ?_)
      refine zD (zP rfl rfl rfl (zA rfl)) ?_
      refine zAG ?_
      refine zO [(5,.lst .ro 1 (zE L)),(6,.bool true),(10,.lst .ro 1 (zE B)),(11,.int .i64 0),(67,U.bool (decide (Bool.true≠decide (↑(List.length A)=(0:Int)))))] ([SB.box [.int .i64 (Bk.parts b),.int .i64 (Bk.size b),.lst .ro 1 (zE (Bk.beats b)),.int .i64 (Bk.start b),.int .i64 (Bk.fin b),.int .i64 (Bk.tlo b),.int .i64 (Bk.thi b),.int .i64 (Bk.slo b),.int .i64 (Bk.shi b),.int .i64 (Bk.notice b),.lst .ro 3 (plsU (Bk.players b))]]) (.c4 rfl rfl rfl rfl (.cons rfl (.nil rfl))) rfl fun fr=>?_
      refine k_cF rfl (by assumption) (zR (k_seq (kQ (zB rfl (wL rfl rfl (zA (k_cF rfl rfl ?_)))))))
      refine zR (kQ (zB rfl (wt rfl rfl rfl (zB rfl (o_gD rfl rfl rfl rfl rfl (zB rfl (o_gD rfl rfl rfl rfl rfl (zM rfl (q49b) (.lrefl _) ?_))))))))
      refine o_gD rfl rfl rfl rfl rfl (zB rfl (o_gD rfl rfl rfl rfl rfl (zM rfl (q49) (.lrefl _) (o_gD rfl rfl rfl rfl rfl (zi rfl rfl rfl (o_gD rfl rfl rfl rfl rfl (zB rfl ?_)))))))
      refine zW [(5,.lst .ro 1 (zE L)),(10,.lst .ro 1 (zE B)),(73,U.bool (decide ((0:Int)=(0:Int)))),(79,U.bool (decide (cb<cl)))] [] ([SB.box [.int .i64 (Bk.parts b),.int .i64 (Bk.size b),.lst .ro 1 (zE (Bk.beats b)),.int .i64 (Bk.start b),.int .i64 (Bk.fin b),.int .i64 (Bk.tlo b),.int .i64 (Bk.thi b),.int .i64 (Bk.slo b),.int .i64 (Bk.shi b),.int .i64 (Bk.notice b),.lst .ro 3 (plsU (Bk.players b))]]) (.c4 rfl rfl rfl rfl (.nil rfl)) rfl rfl fun fr=>?_
      refine o_gS rfl rfl rfl rfl (decide_eq_true (by omega)) (o_gS rfl rfl rfl rfl (decide_eq_true (by omega)) (o_gS rfl rfl rfl rfl (decide_eq_true (by omega)) (o_gS rfl rfl rfl rfl (decide_eq_true (by omega)) (o_gS rfl rfl rfl rfl (decide_eq_true (by omega)) (o_gS rfl rfl rfl rfl (decide_eq_true (by omega)) (o_dead rfl rfl rfl rfl ?_))))))
      refine o_dead rfl rfl rfl rfl ?_
      refine o_dead rfl rfl rfl rfl ?_
      refine zW [(73,U.bool (decide ((0:Int)=(0:Int)))),(79,U.bool (decide (cb<cl))),(85,U.tup []),(88,U.tup [])] [] ([SB.box [.int .i64 (Bk.parts b),.int .i64 (Bk.size b),.lst .ro 1 (zE (Bk.beats b)),.int .i64 (Bk.start b),.int .i64 (Bk.fin b),.int .i64 (Bk.tlo b),.int .i64 (Bk.thi b),.int .i64 (Bk.slo b),.int .i64 (Bk.shi b),.int .i64 (Bk.notice b),.lst .ro 3 (plsU (Bk.players b))]]) (.c4 rfl rfl rfl rfl (.nil rfl)) rfl rfl fun fr=>?_
      refine o_dead rfl rfl rfl rfl ?_
      refine o_gS rfl rfl rfl rfl (decide_eq_true (by omega)) (o_gD rfl rfl rfl rfl rfl (zT rfl rfl (decide_eq_true (by omega)) ?_))
      refine zT rfl rfl rfl ?_
      refine zB rfl (o_gD rfl rfl rfl rfl rfl (zM rfl (r24) (.lrefl _) (zT rfl rfl rfl ?_)))
      refine zC rfl (zA (zZ ?_))
      refine⟨.inr rfl,_,.cons _ _ _ _ (.tmp 4) .nil,?_⟩
      exact .refl _
     ·have h4:cb=cl∧zAw L B=false:=by rcases h3 with h3|h3;exact absurd h3 hlt;exact h3
      rw[h4.2]at q50
      have h5:=h4.1
      refine kQ (yC rfl rfl (zC rfl (zA ?_)))
      refine zO [(1,.lst .ro 1 (zE bits)),(2,U.box 0 0)] ([SB.box [.int .i64 (Bk.parts b),.int .i64 (Bk.size b),.lst .ro 1 (zE (Bk.beats b)),.int .i64 (Bk.start b),.int .i64 (Bk.fin b),.int .i64 (Bk.tlo b),.int .i64 (Bk.thi b),.int .i64 (Bk.slo b),.int .i64 (Bk.shi b),.int .i64 (Bk.notice b),.lst .ro 3 (plsU (Bk.players b))]]) (.cons rfl (.cons rfl (.nil rfl))) rfl fun fr=>?_
      refine k_seq (kQ (zK rfl rfl rfl sh27 rfl (zM rfl (q38) (.lrefl _) (wL rfl rfl (zA (k_cF rfl rfl ?_))))))
      refine zR (kQ (zK rfl rfl rfl sh27 rfl (zB rfl (zM rfl (q43) (.lrefl _) (zC rfl (zA (kQ (zK rfl rfl rfl sh27 rfl ?_))))))))
      refine zB rfl (zM rfl (q25) (.lrefl _) (zB rfl (zS rfl rfl rfl (zS rfl rfl rfl (zC rfl (zC rfl (zA ?_)))))))
      refine zO [(2,U.box 0 0),(5,.lst .ro 1 (zE L)),(6,.bool true),(7,.int .i64 0)] ([SB.box [.int .i64 (Bk.parts b),.int .i64 (Bk.size b),.lst .ro 1 (zE (Bk.beats b)),.int .i64 (Bk.start b),.int .i64 (Bk.fin b),.int .i64 (Bk.tlo b),.int .i64 (Bk.thi b),.int .i64 (Bk.slo b),.int .i64 (Bk.shi b),.int .i64 (Bk.notice b),.lst .ro 3 (plsU (Bk.players b))]]) (.c4 rfl rfl rfl rfl (.nil rfl)) rfl fun fr=>?_
      refine kQ (zK rfl rfl rfl sh27 rfl (zB rfl (zM rfl (q21) (.lrefl _) (zB rfl (zS rfl rfl rfl (zS rfl rfl rfl (zC rfl (zC rfl ?_))))))))
      refine zA (kQ (zK rfl rfl rfl sh27 rfl (zM rfl (q27) (.lrefl _) (zB rfl (zS rfl rfl rfl (zS rfl rfl rfl (zC rfl (zC rfl ?_))))))))
      refine zA ?_
      refine zO [(2,U.box 0 0),(5,.lst .ro 1 (zE L)),(6,.bool true),(7,.int .i64 0),(8,.lst .ro 1 (zE A)),(9,.int .i64 0),(10,.lst .ro 1 (zE B)),(11,.int .i64 0)] ([SB.box [.int .i64 (Bk.parts b),.int .i64 (Bk.size b),.lst .ro 1 (zE (Bk.beats b)),.int .i64 (Bk.start b),.int .i64 (Bk.fin b),.int .i64 (Bk.tlo b),.int .i64 (Bk.thi b),.int .i64 (Bk.slo b),.int .i64 (Bk.shi b),.int .i64 (Bk.notice b),.lst .ro 3 (plsU (Bk.players b))]]) (.c4 rfl rfl rfl rfl (.c4 rfl rfl rfl rfl (.nil rfl))) rfl fun fr=>?_
      refine k_seq (k_seq (yw [.plain,.plain,.plain,.plain,.plain,.plain,.plain,.plain,.plain,.plain,.read true,.plain,.plain,.read true,.plain,.read true,.plain,.plain,.plain,.read true,.read true,.plain,.read false,.plain,.plain,.plain,.plain,.plain,.plain,.plain,.plain,.plain] (by kernel_rfl) (by kernel_rfl) (by kernel_rfl) ?_))
      refine zD (zB rfl (zA rfl)) (zD (zAI rfl rfl rfl (zA rfl)) ?_)
      refine zD (zB rfl (zA rfl)) (d_gD rfl rfl rfl rfl rfl (zD (zB rfl (zA rfl)) (d_gD rfl rfl rfl rfl rfl (zD (zAI rfl rfl rfl (zA rfl)) ?_))))
      refine zD (zP rfl rfl rfl (zA rfl)) ?_
      refine zD (zB rfl (zA rfl)) (d_gD rfl rfl rfl rfl rfl (zD (zB rfl (zA rfl)) (d_gD rfl rfl rfl rfl rfl (zD (zB rfl (zA rfl)) ?_))))
      refine yO [(2,U.box 0 0),(5,.lst .ro 1 (zE L)),(6,.bool true),(8,.lst .ro 1 (zE A)),(10,.lst .ro 1 (zE B)),(11,.int .i64 0),(42,U.bool (decide ((0:Int)≠(0:Int)))),(43,.bool true),(44,.lst .ro 1 (zE L))] [] ([SB.box [.int .i64 (Bk.parts b),.int .i64 (Bk.size b),.lst .ro 1 (zE (Bk.beats b)),.int .i64 (Bk.start b),.int .i64 (Bk.fin b),.int .i64 (Bk.tlo b),.int .i64 (Bk.thi b),.int .i64 (Bk.slo b),.int .i64 (Bk.shi b),.int .i64 (Bk.notice b),.lst .ro 3 (plsU (Bk.players b))]]) (.c4 rfl rfl rfl rfl (.c4 rfl rfl rfl rfl (.cons rfl (.nil rfl)))) rfl rfl fun fr=>?_
      refine d_gD rfl rfl rfl rfl rfl ?_
      refine yO [(2,U.box 0 0),(5,.lst .ro 1 (zE L)),(6,.bool true),(8,.lst .ro 1 (zE A)),(10,.lst .ro 1 (zE B)),(11,.int .i64 0),(42,U.bool (decide ((0:Int)≠(0:Int)))),(43,.bool true),(44,.lst .ro 1 (zE L))] [] ([SB.box [.int .i64 (Bk.parts b),.int .i64 (Bk.size b),.lst .ro 1 (zE (Bk.beats b)),.int .i64 (Bk.start b),.int .i64 (Bk.fin b),.int .i64 (Bk.tlo b),.int .i64 (Bk.thi b),.int .i64 (Bk.slo b),.int .i64 (Bk.shi b),.int .i64 (Bk.notice b),.lst .ro 3 (plsU (Bk.players b))]]) (.c4 rfl rfl rfl rfl (.c4 rfl rfl rfl rfl (.cons rfl (.nil rfl)))) rfl rfl fun fr=>?_
      refine zD (zB rfl (zA rfl)) (d_gD rfl rfl rfl rfl rfl (zb rfl (yA rfl ty22 rfl (List.length_map _) (zA rfl)) ?_))
      refine d_gD rfl rfl rfl rfl rfl ?_
      refine zD (zBG rfl rfl rfl (by unfold I64;omega) (zA rfl)) ?_
      refine d_gD rfl rfl rfl rfl rfl ?_
      refine zD (yx (u:=.int .i64 x) rfl ty22 rfl rfl (by omega) (by rw[List.getElem?_map,hx2];rfl) cl3 (zA rfl)) ?_
      refine d_gD rfl rfl rfl rfl rfl (zb rfl (zj rfl rfl sh3 rfl (zA rfl)) ?_)
      refine d_gD rfl rfl rfl rfl rfl (zD (zF rfl rfl zCe (zA rfl)) ?_)
      refine d_gD rfl rfl rfl rfl rfl (zb rfl (zG rfl rfl rfl sh3 rfl (zA rfl)) (d_gD rfl rfl rfl rfl rfl (zD (wt rfl rfl rfl (zA rfl)) ?_)))
      refine d_gD rfl rfl rfl rfl rfl (zD (zB rfl (zA rfl)) ?_)
      refine yO [(2,U.box 0 0),(5,.lst .ro 1 (zE L)),(6,.bool true),(8,.lst .ro 1 (zE A)),(10,.lst .ro 1 (zE B)),(11,.int .i64 0),(42,U.bool (decide ((0:Int)≠(0:Int)))),(43,.bool true),(53,U.bool (decide (x=Bk.fin b)))] [] ([SB.box [.int .i64 (Bk.parts b),.int .i64 (Bk.size b),.lst .ro 1 (zE (Bk.beats b)),.int .i64 (Bk.start b),.int .i64 (Bk.fin b),.int .i64 (Bk.tlo b),.int .i64 (Bk.thi b),.int .i64 (Bk.slo b),.int .i64 (Bk.shi b),.int .i64 (Bk.notice b),.lst .ro 3 (plsU (Bk.players b))]]) (.c4 rfl rfl rfl rfl (.c4 rfl rfl rfl rfl (.cons rfl (.nil rfl)))) rfl rfl fun fr=>?_
      refine d_gD rfl rfl rfl rfl (decide_eq_true (by omega)) ?_
      refine yO [(2,U.box 0 0),(5,.lst .ro 1 (zE L)),(6,.bool true),(8,.lst .ro 1 (zE A)),(10,.lst .ro 1 (zE B)),(11,.int .i64 0),(42,U.bool (decide ((0:Int)≠(0:Int)))),(43,.bool true),(53,U.bool (decide (x=Bk.fin b)))] [] ([SB.box [.int .i64 (Bk.parts b),.int .i64 (Bk.size b),.lst .ro 1 (zE (Bk.beats b)),.int .i64 (Bk.start b),.int .i64 (Bk.fin b),.int .i64 (Bk.tlo b),.int .i64 (Bk.thi b),.int .i64 (Bk.slo b),.int .i64 (Bk.shi b),.int .i64 (Bk.notice b),.lst .ro 3 (plsU (Bk.players b))]]) (.c4 rfl rfl rfl rfl (.c4 rfl rfl rfl rfl (.cons rfl (.nil rfl)))) rfl rfl fun fr=>?_
      refine zD (zF rfl rfl zDT (zA rfl)) ?_
      refine d_gD rfl rfl rfl rfl (decide_eq_true (by omega)) ?_
      refine zb rfl (zK rfl rfl rfl sh24 rfl (zA rfl)) ?_
      refine d_gD rfl rfl rfl rfl (decide_eq_true (by omega)) ?_
      refine zb rfl (zK rfl rfl rfl sh27 rfl (zA rfl)) ?_
      refine d_gD rfl rfl rfl rfl (decide_eq_true (by omega)) ?_
      refine zD (zB rfl (zA rfl)) (d_gD rfl rfl rfl rfl (decide_eq_true (by omega)) ?_)
      refine zAT rfl (q41) (.int _ _) (.lrefl _) ?_
      refine d_gD rfl rfl rfl rfl (decide_eq_true (by omega)) ?_
      refine zD (zM rfl (q40) (.lrefl _) (zA rfl)) ?_
      refine d_gD rfl rfl rfl rfl rfl (zD (zT rfl rfl (decide_eq_true (by omega)) (zA rfl)) ?_)
      refine d_gD rfl rfl rfl rfl rfl (zD (zB rfl (zA rfl)) (d_gD rfl rfl rfl rfl rfl (zD (zB rfl (zA rfl)) ?_)))
      refine yO [(5,.lst .ro 1 (zE L)),(6,.bool true),(10,.lst .ro 1 (zE B)),(11,.int .i64 0),(42,U.bool (decide ((0:Int)≠(0:Int)))),(43,.bool true),(61,.bool true),(62,.lst .ro 1 (zE A))] [] ([SB.box [.int .i64 (Bk.parts b),.int .i64 (Bk.size b),.lst .ro 1 (zE (Bk.beats b)),.int .i64 (Bk.start b),.int .i64 (Bk.fin b),.int .i64 (Bk.tlo b),.int .i64 (Bk.thi b),.int .i64 (Bk.slo b),.int .i64 (Bk.shi b),.int .i64 (Bk.notice b),.lst .ro 3 (plsU (Bk.players b))]]) (.c4 rfl rfl rfl rfl (.c4 rfl rfl rfl rfl (.nil rfl))) rfl rfl fun fr=>?_
      refine d_gD rfl rfl rfl rfl rfl ?_
      refine yO [(5,.lst .ro 1 (zE L)),(6,.bool true),(10,.lst .ro 1 (zE B)),(11,.int .i64 0),(42,U.bool (decide ((0:Int)≠(0:Int)))),(43,.bool true),(61,.bool true),(62,.lst .ro 1 (zE A))] [] ([SB.box [.int .i64 (Bk.parts b),.int .i64 (Bk.size b),.lst .ro 1 (zE (Bk.beats b)),.int .i64 (Bk.start b),.int .i64 (Bk.fin b),.int .i64 (Bk.tlo b),.int .i64 (Bk.thi b),.int .i64 (Bk.slo b),.int .i64 (Bk.shi b),.int .i64 (Bk.notice b),.lst .ro 3 (plsU (Bk.players b))]]) (.c4 rfl rfl rfl rfl (.c4 rfl rfl rfl rfl (.nil rfl))) rfl rfl fun fr=>?_
      refine zD (yA rfl ty22 rfl (List.length_map _) (zA rfl)) ?_
      refine d_gD rfl rfl rfl rfl rfl (zD (wt rfl rfl rfl (zA rfl)) ?_)
      refine d_gD rfl rfl rfl rfl rfl (zD (zT rfl rfl rfl (zA rfl)) ?_)
      refine d_gD rfl rfl rfl rfl rfl (zD (o_neqB rfl ty4 rfl rfl (zA rfl)) ?_)
      refine zD (zP rfl rfl rfl (zA rfl)) ?_
      refine zAG ?_
      refine zO [(5,.lst .ro 1 (zE L)),(6,.bool true),(10,.lst .ro 1 (zE B)),(11,.int .i64 0),(67,U.bool (decide (Bool.true≠decide (↑(List.length A)=(0:Int)))))] ([SB.box [.int .i64 (Bk.parts b),.int .i64 (Bk.size b),.lst .ro 1 (zE (Bk.beats b)),.int .i64 (Bk.start b),.int .i64 (Bk.fin b),.int .i64 (Bk.tlo b),.int .i64 (Bk.thi b),.int .i64 (Bk.slo b),.int .i64 (Bk.shi b),.int .i64 (Bk.notice b),.lst .ro 3 (plsU (Bk.players b))]]) (.c4 rfl rfl rfl rfl (.cons rfl (.nil rfl))) rfl fun fr=>?_
      refine k_cF rfl (by assumption) (zR (k_seq (kQ (zB rfl (wL rfl rfl (zA (k_cF rfl rfl ?_)))))))
      refine zR (kQ (zB rfl (wt rfl rfl rfl (zB rfl (o_gD rfl rfl rfl rfl rfl (zB rfl (o_gD rfl rfl rfl rfl rfl (zM rfl (q49b) (.lrefl _) ?_))))))))
      refine o_gD rfl rfl rfl rfl rfl (zB rfl (o_gD rfl rfl rfl rfl rfl (zM rfl (q49) (.lrefl _) (o_gD rfl rfl rfl rfl rfl (zi rfl rfl rfl (o_gD rfl rfl rfl rfl rfl (zB rfl ?_)))))))
      refine zW [(5,.lst .ro 1 (zE L)),(10,.lst .ro 1 (zE B)),(73,U.bool (decide ((0:Int)=(0:Int)))),(79,U.bool (decide (cb<cl)))] [] ([SB.box [.int .i64 (Bk.parts b),.int .i64 (Bk.size b),.lst .ro 1 (zE (Bk.beats b)),.int .i64 (Bk.start b),.int .i64 (Bk.fin b),.int .i64 (Bk.tlo b),.int .i64 (Bk.thi b),.int .i64 (Bk.slo b),.int .i64 (Bk.shi b),.int .i64 (Bk.notice b),.lst .ro 3 (plsU (Bk.players b))]]) (.c4 rfl rfl rfl rfl (.nil rfl)) rfl rfl fun fr=>?_
      refine o_gD rfl rfl rfl rfl (decide_eq_false (by omega)) ?_
      refine zW [(5,.lst .ro 1 (zE L)),(10,.lst .ro 1 (zE B)),(73,U.bool (decide ((0:Int)=(0:Int)))),(79,U.bool (decide (cb<cl)))] [] ([SB.box [.int .i64 (Bk.parts b),.int .i64 (Bk.size b),.lst .ro 1 (zE (Bk.beats b)),.int .i64 (Bk.start b),.int .i64 (Bk.fin b),.int .i64 (Bk.tlo b),.int .i64 (Bk.thi b),.int .i64 (Bk.slo b),.int .i64 (Bk.shi b),.int .i64 (Bk.notice b),.lst .ro 3 (plsU (Bk.players b))]]) (.c4 rfl rfl rfl rfl (.nil rfl)) rfl rfl fun fr=>?_
      refine zB rfl (o_gD rfl rfl rfl rfl (decide_eq_false (by omega)) (zM rfl (q49b) (.lrefl _) (o_gD rfl rfl rfl rfl (decide_eq_false (by omega)) (zB rfl (o_gD rfl rfl rfl rfl (decide_eq_false (by omega)) (zM rfl (q49) (.lrefl _) (o_gD rfl rfl rfl rfl (decide_eq_false (by omega)) (wt rfl rfl rfl ?_))))))))
      refine o_gD rfl rfl rfl rfl (decide_eq_false (by omega)) (zB rfl (o_gD rfl rfl rfl rfl (decide_eq_true (by omega)) ?_))
      refine zB rfl (o_gD rfl rfl rfl rfl (decide_eq_true (by omega)) ?_)
      refine zB rfl (o_gD rfl rfl rfl rfl (decide_eq_true (by omega)) ?_)
      refine zM rfl (q50) (.lrefl _) ?_
      refine zW [(73,U.bool (decide ((0:Int)=(0:Int)))),(79,U.bool (decide (cb<cl))),(85,U.bool (decide (cb=cl))),(88,.bool false)] [] ([SB.box [.int .i64 (Bk.parts b),.int .i64 (Bk.size b),.lst .ro 1 (zE (Bk.beats b)),.int .i64 (Bk.start b),.int .i64 (Bk.fin b),.int .i64 (Bk.tlo b),.int .i64 (Bk.thi b),.int .i64 (Bk.slo b),.int .i64 (Bk.shi b),.int .i64 (Bk.notice b),.lst .ro 3 (plsU (Bk.players b))]]) (.c4 rfl rfl rfl rfl (.nil rfl)) rfl rfl fun fr=>?_
      refine o_gD rfl rfl rfl rfl (decide_eq_true (by omega)) ?_
      refine zW [(73,U.bool (decide ((0:Int)=(0:Int)))),(79,U.bool (decide (cb<cl))),(85,U.bool (decide (cb=cl))),(88,.bool false)] [] ([SB.box [.int .i64 (Bk.parts b),.int .i64 (Bk.size b),.lst .ro 1 (zE (Bk.beats b)),.int .i64 (Bk.start b),.int .i64 (Bk.fin b),.int .i64 (Bk.tlo b),.int .i64 (Bk.thi b),.int .i64 (Bk.slo b),.int .i64 (Bk.shi b),.int .i64 (Bk.notice b),.lst .ro 3 (plsU (Bk.players b))]]) (.c4 rfl rfl rfl rfl (.nil rfl)) rfl rfl fun fr=>?_
      refine wL rfl rfl (o_gD rfl rfl rfl rfl (decide_eq_false (by omega)) (zT rfl rfl (decide_eq_true (by omega)) ?_))
      refine o_gD rfl rfl rfl rfl rfl (zP rfl rfl (decide_eq_false (by omega)) ?_)
      refine zT rfl rfl rfl ?_
      refine zB rfl (o_gD rfl rfl rfl rfl rfl (zM rfl (r24) (.lrefl _) (zT rfl rfl rfl ?_)))
      refine zC rfl (zA (zZ ?_))
      refine⟨.inr rfl,_,.cons _ _ _ _ (.tmp 4) .nil,?_⟩
      exact .refl _
    ·rw[decide_eq_false c3]at hpl
     have k67:decide (false≠decide ((A.length:Int)=0))=false:=by rw[decide_eq_false (show ¬ (A.length:Int)=0 by omega)];rfl
     rw[hpl]at q25
     refine kQ (yC rfl rfl (zC rfl (zA ?_)))
     refine zO [(1,.lst .ro 1 (zE bits)),(2,U.box 0 0)] ([SB.box [.int .i64 (Bk.parts b),.int .i64 (Bk.size b),.lst .ro 1 (zE (Bk.beats b)),.int .i64 (Bk.start b),.int .i64 (Bk.fin b),.int .i64 (Bk.tlo b),.int .i64 (Bk.thi b),.int .i64 (Bk.slo b),.int .i64 (Bk.shi b),.int .i64 (Bk.notice b),.lst .ro 3 (plsU (Bk.players b))]]) (.cons rfl (.cons rfl (.nil rfl))) rfl fun fr=>?_
     refine k_seq (kQ (zK rfl rfl rfl sh27 rfl (zM rfl (q38) (.lrefl _) (wL rfl rfl (zA (k_cF rfl rfl ?_))))))
     refine zR (kQ (zK rfl rfl rfl sh27 rfl (zB rfl (zM rfl (q43) (.lrefl _) (zC rfl (zA (kQ (zK rfl rfl rfl sh27 rfl ?_))))))))
     refine zB rfl (zM rfl (q25) (.lrefl _) (zB rfl (zS rfl rfl rfl (zS rfl rfl rfl (zC rfl (zC rfl (zA ?_)))))))
     refine zO [(2,U.box 0 0),(5,.lst .ro 1 (zE L)),(6,.bool false),(7,.int .i64 0)] ([SB.box [.int .i64 (Bk.parts b),.int .i64 (Bk.size b),.lst .ro 1 (zE (Bk.beats b)),.int .i64 (Bk.start b),.int .i64 (Bk.fin b),.int .i64 (Bk.tlo b),.int .i64 (Bk.thi b),.int .i64 (Bk.slo b),.int .i64 (Bk.shi b),.int .i64 (Bk.notice b),.lst .ro 3 (plsU (Bk.players b))]]) (.c4 rfl rfl rfl rfl (.nil rfl)) rfl fun fr=>?_
     refine kQ (zK rfl rfl rfl sh27 rfl (zB rfl (zM rfl (q21) (.lrefl _) (zB rfl (zS rfl rfl rfl (zS rfl rfl rfl (zC rfl (zC rfl ?_))))))))
     refine zA (kQ (zK rfl rfl rfl sh27 rfl (zM rfl (q27) (.lrefl _) (zB rfl (zS rfl rfl rfl (zS rfl rfl rfl (zC rfl (zC rfl ?_))))))))
     refine zA ?_
     refine zO [(2,U.box 0 0),(5,.lst .ro 1 (zE L)),(6,.bool false),(7,.int .i64 0),(8,.lst .ro 1 (zE A)),(9,.int .i64 0),(10,.lst .ro 1 (zE (zx (zu b)))),(11,.int .i64 (if zx (zu b)=[]then(4:Int)else(0:Int)))] ([SB.box [.int .i64 (Bk.parts b),.int .i64 (Bk.size b),.lst .ro 1 (zE (Bk.beats b)),.int .i64 (Bk.start b),.int .i64 (Bk.fin b),.int .i64 (Bk.tlo b),.int .i64 (Bk.thi b),.int .i64 (Bk.slo b),.int .i64 (Bk.shi b),.int .i64 (Bk.notice b),.lst .ro 3 (plsU (Bk.players b))]]) (.c4 rfl rfl rfl rfl (.c4 rfl rfl rfl rfl (.nil rfl))) rfl fun fr=>?_
     refine k_seq (k_seq (yw [.plain,.plain,.plain,.plain,.plain,.plain,.plain,.plain,.plain,.plain,.read true,.plain,.plain,.read true,.plain,.read true,.plain,.plain,.plain,.read true,.read true,.plain,.read false,.plain,.plain,.plain,.plain,.plain,.plain,.plain,.plain,.plain] (by kernel_rfl) (by kernel_rfl) (by kernel_rfl) ?_))
     refine zD (zB rfl (zA rfl)) (zD (zAI rfl rfl rfl (zA rfl)) ?_)
     refine zD (zB rfl (zA rfl)) (d_gD rfl rfl rfl rfl rfl (zD (zB rfl (zA rfl)) (d_gD rfl rfl rfl rfl rfl (zD (zAI rfl rfl rfl (zA rfl)) ?_))))
     refine zD (zP rfl rfl rfl (zA rfl)) ?_
     refine zD (zB rfl (zA rfl)) (d_gD rfl rfl rfl rfl rfl (zD (zB rfl (zA rfl)) (d_gD rfl rfl rfl rfl rfl (zD (zB rfl (zA rfl)) ?_))))
     refine yO [(2,U.box 0 0),(5,.lst .ro 1 (zE L)),(6,.bool false),(8,.lst .ro 1 (zE A)),(10,.lst .ro 1 (zE (zx (zu b)))),(11,.int .i64 (if zx (zu b)=[]then(4:Int)else(0:Int))),(42,U.bool (decide ((0:Int)≠(0:Int)))),(43,.bool false),(44,.lst .ro 1 (zE L))] [] ([SB.box [.int .i64 (Bk.parts b),.int .i64 (Bk.size b),.lst .ro 1 (zE (Bk.beats b)),.int .i64 (Bk.start b),.int .i64 (Bk.fin b),.int .i64 (Bk.tlo b),.int .i64 (Bk.thi b),.int .i64 (Bk.slo b),.int .i64 (Bk.shi b),.int .i64 (Bk.notice b),.lst .ro 3 (plsU (Bk.players b))]]) (.c4 rfl rfl rfl rfl (.c4 rfl rfl rfl rfl (.cons rfl (.nil rfl)))) rfl rfl fun fr=>?_
     refine d_gD rfl rfl rfl rfl rfl ?_
     refine yO [(2,U.box 0 0),(5,.lst .ro 1 (zE L)),(6,.bool false),(8,.lst .ro 1 (zE A)),(10,.lst .ro 1 (zE (zx (zu b)))),(11,.int .i64 (if zx (zu b)=[]then(4:Int)else(0:Int))),(42,U.bool (decide ((0:Int)≠(0:Int)))),(43,.bool false),(44,.lst .ro 1 (zE L))] [] ([SB.box [.int .i64 (Bk.parts b),.int .i64 (Bk.size b),.lst .ro 1 (zE (Bk.beats b)),.int .i64 (Bk.start b),.int .i64 (Bk.fin b),.int .i64 (Bk.tlo b),.int .i64 (Bk.thi b),.int .i64 (Bk.slo b),.int .i64 (Bk.shi b),.int .i64 (Bk.notice b),.lst .ro 3 (plsU (Bk.players b))]]) (.c4 rfl rfl rfl rfl (.c4 rfl rfl rfl rfl (.cons rfl (.nil rfl)))) rfl rfl fun fr=>?_
     refine zD (zB rfl (zA rfl)) (d_gD rfl rfl rfl rfl rfl (zb rfl (yA rfl ty22 rfl (List.length_map _) (zA rfl)) ?_))
     refine d_gD rfl rfl rfl rfl rfl ?_
     refine zD (zBG rfl rfl rfl (by unfold I64;omega) (zA rfl)) ?_
     refine d_gD rfl rfl rfl rfl rfl ?_
     refine zD (yx (u:=.int .i64 x) rfl ty22 rfl rfl (by omega) (by rw[List.getElem?_map,hx2];rfl) cl3 (zA rfl)) ?_
     refine d_gD rfl rfl rfl rfl rfl (zb rfl (zj rfl rfl sh3 rfl (zA rfl)) ?_)
     refine d_gD rfl rfl rfl rfl rfl (zD (zF rfl rfl zCe (zA rfl)) ?_)
     refine d_gD rfl rfl rfl rfl rfl (zb rfl (zG rfl rfl rfl sh3 rfl (zA rfl)) (d_gD rfl rfl rfl rfl rfl (zD (wt rfl rfl rfl (zA rfl)) ?_)))
     refine d_gD rfl rfl rfl rfl rfl (zD (zB rfl (zA rfl)) ?_)
     refine yO [(2,U.box 0 0),(5,.lst .ro 1 (zE L)),(6,.bool false),(8,.lst .ro 1 (zE A)),(10,.lst .ro 1 (zE (zx (zu b)))),(11,.int .i64 (if zx (zu b)=[]then(4:Int)else(0:Int))),(42,U.bool (decide ((0:Int)≠(0:Int)))),(43,.bool false),(53,U.bool (decide (x=Bk.fin b)))] [] ([SB.box [.int .i64 (Bk.parts b),.int .i64 (Bk.size b),.lst .ro 1 (zE (Bk.beats b)),.int .i64 (Bk.start b),.int .i64 (Bk.fin b),.int .i64 (Bk.tlo b),.int .i64 (Bk.thi b),.int .i64 (Bk.slo b),.int .i64 (Bk.shi b),.int .i64 (Bk.notice b),.lst .ro 3 (plsU (Bk.players b))]]) (.c4 rfl rfl rfl rfl (.c4 rfl rfl rfl rfl (.cons rfl (.nil rfl)))) rfl rfl fun fr=>?_
     refine d_gD rfl rfl rfl rfl (decide_eq_true (by omega)) ?_
     refine yO [(2,U.box 0 0),(5,.lst .ro 1 (zE L)),(6,.bool false),(8,.lst .ro 1 (zE A)),(10,.lst .ro 1 (zE (zx (zu b)))),(11,.int .i64 (if zx (zu b)=[]then(4:Int)else(0:Int))),(42,U.bool (decide ((0:Int)≠(0:Int)))),(43,.bool false),(53,U.bool (decide (x=Bk.fin b)))] [] ([SB.box [.int .i64 (Bk.parts b),.int .i64 (Bk.size b),.lst .ro 1 (zE (Bk.beats b)),.int .i64 (Bk.start b),.int .i64 (Bk.fin b),.int .i64 (Bk.tlo b),.int .i64 (Bk.thi b),.int .i64 (Bk.slo b),.int .i64 (Bk.shi b),.int .i64 (Bk.notice b),.lst .ro 3 (plsU (Bk.players b))]]) (.c4 rfl rfl rfl rfl (.c4 rfl rfl rfl rfl (.cons rfl (.nil rfl)))) rfl rfl fun fr=>?_
     refine zD (zF rfl rfl zDT (zA rfl)) ?_
     refine d_gD rfl rfl rfl rfl (decide_eq_true (by omega)) ?_
     refine zb rfl (zK rfl rfl rfl sh24 rfl (zA rfl)) ?_
     refine d_gD rfl rfl rfl rfl (decide_eq_true (by omega)) ?_
     refine zb rfl (zK rfl rfl rfl sh27 rfl (zA rfl)) ?_
     refine d_gD rfl rfl rfl rfl (decide_eq_true (by omega)) ?_
     refine zD (zB rfl (zA rfl)) (d_gD rfl rfl rfl rfl (decide_eq_true (by omega)) ?_)
     refine zAT rfl (q41) (.int _ _) (.lrefl _) ?_
     refine d_gD rfl rfl rfl rfl (decide_eq_true (by omega)) ?_
     refine zD (zM rfl (q40) (.lrefl _) (zA rfl)) ?_
     refine d_gD rfl rfl rfl rfl rfl (zD (zT rfl rfl (decide_eq_true (by omega)) (zA rfl)) ?_)
     refine d_gD rfl rfl rfl rfl rfl (zD (zB rfl (zA rfl)) (d_gD rfl rfl rfl rfl rfl (zD (zB rfl (zA rfl)) ?_)))
     refine yO [(5,.lst .ro 1 (zE L)),(6,.bool false),(10,.lst .ro 1 (zE (zx (zu b)))),(11,.int .i64 (if zx (zu b)=[]then(4:Int)else(0:Int))),(42,U.bool (decide ((0:Int)≠(0:Int)))),(43,.bool false),(61,.bool true),(62,.lst .ro 1 (zE A))] [] ([SB.box [.int .i64 (Bk.parts b),.int .i64 (Bk.size b),.lst .ro 1 (zE (Bk.beats b)),.int .i64 (Bk.start b),.int .i64 (Bk.fin b),.int .i64 (Bk.tlo b),.int .i64 (Bk.thi b),.int .i64 (Bk.slo b),.int .i64 (Bk.shi b),.int .i64 (Bk.notice b),.lst .ro 3 (plsU (Bk.players b))]]) (.c4 rfl rfl rfl rfl (.c4 rfl rfl rfl rfl (.nil rfl))) rfl rfl fun fr=>?_
     refine d_gD rfl rfl rfl rfl rfl ?_
     refine yO [(5,.lst .ro 1 (zE L)),(6,.bool false),(10,.lst .ro 1 (zE (zx (zu b)))),(11,.int .i64 (if zx (zu b)=[]then(4:Int)else(0:Int))),(42,U.bool (decide ((0:Int)≠(0:Int)))),(43,.bool false),(61,.bool true),(62,.lst .ro 1 (zE A))] [] ([SB.box [.int .i64 (Bk.parts b),.int .i64 (Bk.size b),.lst .ro 1 (zE (Bk.beats b)),.int .i64 (Bk.start b),.int .i64 (Bk.fin b),.int .i64 (Bk.tlo b),.int .i64 (Bk.thi b),.int .i64 (Bk.slo b),.int .i64 (Bk.shi b),.int .i64 (Bk.notice b),.lst .ro 3 (plsU (Bk.players b))]]) (.c4 rfl rfl rfl rfl (.c4 rfl rfl rfl rfl (.nil rfl))) rfl rfl fun fr=>?_
     refine zD (yA rfl ty22 rfl (List.length_map _) (zA rfl)) ?_
     refine d_gD rfl rfl rfl rfl rfl (zD (wt rfl rfl rfl (zA rfl)) ?_)
     refine d_gD rfl rfl rfl rfl rfl (zD (zT rfl rfl rfl (zA rfl)) ?_)
     refine d_gD rfl rfl rfl rfl rfl (zD (o_neqB rfl ty4 rfl rfl (zA rfl)) ?_)
     refine zD (zP rfl rfl rfl (zA rfl)) ?_
     refine zAG ?_
     refine zO [(5,.lst .ro 1 (zE L)),(6,.bool false),(10,.lst .ro 1 (zE (zx (zu b)))),(11,.int .i64 (if zx (zu b)=[]then(4:Int)else(0:Int))),(67,U.bool (decide (Bool.false≠decide (↑(List.length A)=(0:Int)))))] ([SB.box [.int .i64 (Bk.parts b),.int .i64 (Bk.size b),.lst .ro 1 (zE (Bk.beats b)),.int .i64 (Bk.start b),.int .i64 (Bk.fin b),.int .i64 (Bk.tlo b),.int .i64 (Bk.thi b),.int .i64 (Bk.slo b),.int .i64 (Bk.shi b),.int .i64 (Bk.notice b),.lst .ro 3 (plsU (Bk.players b))]]) (.c4 rfl rfl rfl rfl (.cons rfl (.nil rfl))) rfl fun fr=>?_
     refine k_cF rfl (by assumption) (zR (k_seq (kQ (zB rfl (wL rfl rfl (zA (k_cT rfl rfl ?_)))))))
     refine kQ (zM rfl (r24) (.lrefl _) (zC rfl (zA (zZ ?_))))
     refine⟨.inr rfl,_,.cons _ _ _ _ (.tmp 4) .nil,?_⟩
     exact .refl _
  ·rw[decide_eq_false c1,Bool.false_and]at hpl
   rw[hpl]at q25
   refine kQ (yC rfl rfl (zC rfl (zA ?_)))
   refine zO [(1,.lst .ro 1 (zE bits)),(2,U.box 0 0)] ([SB.box [.int .i64 (Bk.parts b),.int .i64 (Bk.size b),.lst .ro 1 (zE (Bk.beats b)),.int .i64 (Bk.start b),.int .i64 (Bk.fin b),.int .i64 (Bk.tlo b),.int .i64 (Bk.thi b),.int .i64 (Bk.slo b),.int .i64 (Bk.shi b),.int .i64 (Bk.notice b),.lst .ro 3 (plsU (Bk.players b))]]) (.cons rfl (.cons rfl (.nil rfl))) rfl fun fr=>?_
   refine k_seq (kQ (zK rfl rfl rfl sh27 rfl (zM rfl (q38) (.lrefl _) (wL rfl rfl (zA (k_cF rfl rfl ?_))))))
   refine zR (kQ (zK rfl rfl rfl sh27 rfl (zB rfl (zM rfl (q43) (.lrefl _) (zC rfl (zA (kQ (zK rfl rfl rfl sh27 rfl ?_))))))))
   refine zB rfl (zM rfl (q25) (.lrefl _) (zB rfl (zS rfl rfl rfl (zS rfl rfl rfl (zC rfl (zC rfl (zA ?_)))))))
   refine zO [(2,U.box 0 0),(5,.lst .ro 1 (zE L)),(6,.bool false),(7,.int .i64 0)] ([SB.box [.int .i64 (Bk.parts b),.int .i64 (Bk.size b),.lst .ro 1 (zE (Bk.beats b)),.int .i64 (Bk.start b),.int .i64 (Bk.fin b),.int .i64 (Bk.tlo b),.int .i64 (Bk.thi b),.int .i64 (Bk.slo b),.int .i64 (Bk.shi b),.int .i64 (Bk.notice b),.lst .ro 3 (plsU (Bk.players b))]]) (.c4 rfl rfl rfl rfl (.nil rfl)) rfl fun fr=>?_
   refine kQ (zK rfl rfl rfl sh27 rfl (zB rfl (zM rfl (q21) (.lrefl _) (zB rfl (zS rfl rfl rfl (zS rfl rfl rfl (zC rfl (zC rfl ?_))))))))
   refine zA (kQ (zK rfl rfl rfl sh27 rfl (zM rfl (q27) (.lrefl _) (zB rfl (zS rfl rfl rfl (zS rfl rfl rfl (zC rfl (zC rfl ?_))))))))
   refine zA ?_
   refine zO [(2,U.box 0 0),(5,.lst .ro 1 (zE L)),(6,.bool false),(7,.int .i64 0),(8,.lst .ro 1 (zE A)),(9,.int .i64 0),(10,.lst .ro 1 (zE (zx (zu b)))),(11,.int .i64 (if zx (zu b)=[]then(4:Int)else(0:Int)))] ([SB.box [.int .i64 (Bk.parts b),.int .i64 (Bk.size b),.lst .ro 1 (zE (Bk.beats b)),.int .i64 (Bk.start b),.int .i64 (Bk.fin b),.int .i64 (Bk.tlo b),.int .i64 (Bk.thi b),.int .i64 (Bk.slo b),.int .i64 (Bk.shi b),.int .i64 (Bk.notice b),.lst .ro 3 (plsU (Bk.players b))]]) (.c4 rfl rfl rfl rfl (.c4 rfl rfl rfl rfl (.nil rfl))) rfl fun fr=>?_
   refine k_seq (k_seq (yw [.plain,.plain,.plain,.plain,.plain,.plain,.plain,.plain,.plain,.plain,.read true,.plain,.plain,.read true,.plain,.read true,.plain,.plain,.plain,.read true,.read true,.plain,.read false,.plain,.plain,.plain,.plain,.plain,.plain,.plain,.plain,.plain] (by kernel_rfl) (by kernel_rfl) (by kernel_rfl) ?_))
   refine zD (zB rfl (zA rfl)) (zD (zAI rfl rfl rfl (zA rfl)) ?_)
   refine zD (zB rfl (zA rfl)) (d_gD rfl rfl rfl rfl rfl (zD (zB rfl (zA rfl)) (d_gD rfl rfl rfl rfl rfl (zD (zAI rfl rfl rfl (zA rfl)) ?_))))
   refine zD (zP rfl rfl rfl (zA rfl)) ?_
   refine zD (zB rfl (zA rfl)) (d_gD rfl rfl rfl rfl rfl (zD (zB rfl (zA rfl)) (d_gD rfl rfl rfl rfl rfl (zD (zB rfl (zA rfl)) ?_))))
   refine yO [(2,U.box 0 0),(5,.lst .ro 1 (zE L)),(6,.bool false),(8,.lst .ro 1 (zE A)),(10,.lst .ro 1 (zE (zx (zu b)))),(11,.int .i64 (if zx (zu b)=[]then(4:Int)else(0:Int))),(42,U.bool (decide ((0:Int)≠(0:Int)))),(43,.bool false),(44,.lst .ro 1 (zE L))] [] ([SB.box [.int .i64 (Bk.parts b),.int .i64 (Bk.size b),.lst .ro 1 (zE (Bk.beats b)),.int .i64 (Bk.start b),.int .i64 (Bk.fin b),.int .i64 (Bk.tlo b),.int .i64 (Bk.thi b),.int .i64 (Bk.slo b),.int .i64 (Bk.shi b),.int .i64 (Bk.notice b),.lst .ro 3 (plsU (Bk.players b))]]) (.c4 rfl rfl rfl rfl (.c4 rfl rfl rfl rfl (.cons rfl (.nil rfl)))) rfl rfl fun fr=>?_
   refine d_gD rfl rfl rfl rfl rfl ?_
   refine yO [(2,U.box 0 0),(5,.lst .ro 1 (zE L)),(6,.bool false),(8,.lst .ro 1 (zE A)),(10,.lst .ro 1 (zE (zx (zu b)))),(11,.int .i64 (if zx (zu b)=[]then(4:Int)else(0:Int))),(42,U.bool (decide ((0:Int)≠(0:Int)))),(43,.bool false),(44,.lst .ro 1 (zE L))] [] ([SB.box [.int .i64 (Bk.parts b),.int .i64 (Bk.size b),.lst .ro 1 (zE (Bk.beats b)),.int .i64 (Bk.start b),.int .i64 (Bk.fin b),.int .i64 (Bk.tlo b),.int .i64 (Bk.thi b),.int .i64 (Bk.slo b),.int .i64 (Bk.shi b),.int .i64 (Bk.notice b),.lst .ro 3 (plsU (Bk.players b))]]) (.c4 rfl rfl rfl rfl (.c4 rfl rfl rfl rfl (.cons rfl (.nil rfl)))) rfl rfl fun fr=>?_
   refine zD (zB rfl (zA rfl)) (d_gD rfl rfl rfl rfl rfl (zb rfl (yA rfl ty22 rfl (List.length_map _) (zA rfl)) ?_))
   refine d_gD rfl rfl rfl rfl rfl ?_
   refine zD (zBG rfl rfl rfl (by unfold I64;omega) (zA rfl)) ?_
   refine d_gD rfl rfl rfl rfl rfl ?_
   refine zD (yx (u:=.int .i64 x) rfl ty22 rfl rfl (by omega) (by rw[List.getElem?_map,hx2];rfl) cl3 (zA rfl)) ?_
   refine d_gD rfl rfl rfl rfl rfl (zb rfl (zj rfl rfl sh3 rfl (zA rfl)) ?_)
   refine d_gD rfl rfl rfl rfl rfl (zD (zF rfl rfl zCe (zA rfl)) ?_)
   refine d_gD rfl rfl rfl rfl rfl (zb rfl (zG rfl rfl rfl sh3 rfl (zA rfl)) (d_gD rfl rfl rfl rfl rfl (zD (wt rfl rfl rfl (zA rfl)) ?_)))
   refine d_gD rfl rfl rfl rfl rfl (zD (zB rfl (zA rfl)) ?_)
   refine yO [(2,U.box 0 0),(5,.lst .ro 1 (zE L)),(6,.bool false),(8,.lst .ro 1 (zE A)),(10,.lst .ro 1 (zE (zx (zu b)))),(11,.int .i64 (if zx (zu b)=[]then(4:Int)else(0:Int))),(42,U.bool (decide ((0:Int)≠(0:Int)))),(43,.bool false),(53,U.bool (decide (x=Bk.fin b)))] [] ([SB.box [.int .i64 (Bk.parts b),.int .i64 (Bk.size b),.lst .ro 1 (zE (Bk.beats b)),.int .i64 (Bk.start b),.int .i64 (Bk.fin b),.int .i64 (Bk.tlo b),.int .i64 (Bk.thi b),.int .i64 (Bk.slo b),.int .i64 (Bk.shi b),.int .i64 (Bk.notice b),.lst .ro 3 (plsU (Bk.players b))]]) (.c4 rfl rfl rfl rfl (.c4 rfl rfl rfl rfl (.cons rfl (.nil rfl)))) rfl rfl fun fr=>?_
   refine d_gS rfl rfl rfl rfl (decide_eq_false (by omega)) ?_
   refine d_gS rfl rfl rfl rfl (decide_eq_false (by omega)) ?_
   refine d_gS rfl rfl rfl rfl (decide_eq_false (by omega)) ?_
   refine d_gS rfl rfl rfl rfl (decide_eq_false (by omega)) ?_
   refine d_gS rfl rfl rfl rfl (decide_eq_false (by omega)) ?_
   refine d_gS rfl rfl rfl rfl (decide_eq_false (by omega)) ?_
   refine d_gD rfl rfl rfl rfl rfl (zD (zP rfl rfl (decide_eq_false (by omega)) (zA rfl)) ?_)
   refine d_gD rfl rfl rfl rfl rfl (zD (zB rfl (zA rfl)) (d_gS rfl rfl rfl rfl rfl ?_))
   refine yO [(5,.lst .ro 1 (zE L)),(6,.bool false),(10,.lst .ro 1 (zE (zx (zu b)))),(11,.int .i64 (if zx (zu b)=[]then(4:Int)else(0:Int))),(42,U.bool (decide ((0:Int)≠(0:Int)))),(43,.bool false),(61,.bool false),(62,U.tup [])] [] ([SB.box [.int .i64 (Bk.parts b),.int .i64 (Bk.size b),.lst .ro 1 (zE (Bk.beats b)),.int .i64 (Bk.start b),.int .i64 (Bk.fin b),.int .i64 (Bk.tlo b),.int .i64 (Bk.thi b),.int .i64 (Bk.slo b),.int .i64 (Bk.shi b),.int .i64 (Bk.notice b),.lst .ro 3 (plsU (Bk.players b))]]) (.c4 rfl rfl rfl rfl (.c4 rfl rfl rfl rfl (.nil rfl))) rfl rfl fun fr=>?_
   refine d_gS rfl rfl rfl rfl rfl (d_gS rfl rfl rfl rfl rfl (d_gD rfl rfl rfl rfl rfl (zD (zP rfl rfl rfl (zA rfl)) ?_)))
   refine d_gD rfl rfl rfl rfl rfl (zD (o_neqB rfl ty4 rfl rfl (zA rfl)) ?_)
   refine zD (zP rfl rfl rfl (zA rfl)) ?_
   refine zAG ?_
   refine zO [(5,.lst .ro 1 (zE L)),(6,.bool false),(10,.lst .ro 1 (zE (zx (zu b)))),(11,.int .i64 (if zx (zu b)=[]then(4:Int)else(0:Int))),(67,U.bool (decide (Bool.false≠Bool.false)))] ([SB.box [.int .i64 (Bk.parts b),.int .i64 (Bk.size b),.lst .ro 1 (zE (Bk.beats b)),.int .i64 (Bk.start b),.int .i64 (Bk.fin b),.int .i64 (Bk.tlo b),.int .i64 (Bk.thi b),.int .i64 (Bk.slo b),.int .i64 (Bk.shi b),.int .i64 (Bk.notice b),.lst .ro 3 (plsU (Bk.players b))]]) (.c4 rfl rfl rfl rfl (.cons rfl (.nil rfl))) rfl fun fr=>?_
   refine k_cF rfl rfl ?_
   refine zR (k_seq (kQ (zB rfl (wL rfl rfl (zA (k_cT rfl rfl ?_))))))
   refine kQ (zM rfl (r24) (.lrefl _) (zC rfl (zA (zZ ?_))))
   refine⟨.inr rfl,_,.cons _ _ _ _ (.tmp 4) .nil,?_⟩
   exact .refl _
end
section
variable {is:FuncId→Bool}{orc:Known}
theorem zDt{P:Program}{t:TypeId}(n:Nat)(h:(match P.underlying t with|some (.struct fs)=>Nat.beq fs.size n|_=>false)=true):∃fs,P.underlying t=some (.struct fs):=by
 cases hu:P.underlying t with
 |none=>rw[hu]at h;cases h
 |some ty=>rw[hu]at h;cases ty<;>first|exact⟨_,rfl⟩|cases h
theorem u3:Tryd.prog.underlying 3=some (.int .i64):=by kernel_rfl
theorem u22:Tryd.prog.underlying 22=some (.slice 3):=by kernel_rfl
theorem u66:Tryd.prog.underlying 66=some (.slice 24):=by kernel_rfl
theorem u25:Tryd.prog.underlying 25=some (.slice 68):=by kernel_rfl
def fts(P:Program)(t:TypeId):List TypeId:=match P.underlying t with|some (.struct fs)=>fs.toList.map (·.type)|_=>[]
theorem f27:fts Tryd.prog 27=[3,3,22,3,3,24,24,3,25]:=by kernel_rfl
theorem f24:fts Tryd.prog 24=[3,3]:=by kernel_rfl
theorem f68:fts Tryd.prog 68=[24,66]:=by kernel_rfl
theorem clq24:Program.cellsOf Tryd.prog 24=2:=by kernel_rfl
theorem clq68:Program.cellsOf Tryd.prog 68=3:=by kernel_rfl
theorem clq3:Program.cellsOf Tryd.prog 3=1:=by kernel_rfl
theorem zCS{cs:List U}(h:Shp Tryd.prog 3 cs):∃n:Int,cs=[.int .i64 n]:=by
 cases h with
 |int _ k n hu _=>rw[u3]at hu;cases hu;exact⟨n,rfl⟩
 |bool _ _ hu=>rw[u3]at hu;cases hu
 |str _ _ hu=>rw[u3]at hu;cases hu
 |slice _ _ _ hu=>rw[u3]at hu;cases hu
 |struct _ _ _ hu=>rw[u3]at hu;cases hu
 |array _ _ _ _ hu=>rw[u3]at hu;cases hu
theorem zDz{P:Program}{t:TypeId}{cs:List U}(h:Shp P t cs)(hne:fts P t≠[]):∃fs:List Field,fs.map (·.type)=fts P t∧ShpF P fs cs:=by
 have no:∀{ty},P.underlying t=some ty→(∀fs,ty≠.struct fs)→False:=fun hu hn=>hne (by unfold fts;rw[hu];split<;>simp_all)
 cases h with
 |struct _ fs _ hu hf=>exact⟨fs.toList,by unfold fts;rw[hu],hf⟩
 |int _ k n hu _=>exact(no hu (by intro fs h;cases h)).elim
 |bool _ _ hu=>exact(no hu (by intro fs h;cases h)).elim
 |str _ _ hu=>exact(no hu (by intro fs h;cases h)).elim
 |slice _ _ _ hu=>exact(no hu (by intro fs h;cases h)).elim
 |array _ _ _ _ hu=>exact(no hu (by intro fs h;cases h)).elim
theorem yz{P:Program}{fs:List Field}{t:TypeId}{ts:List TypeId}{cs:List U}(h:ShpF P fs cs)(e:fs.map (·.type)=t::ts):∃gs xs ys,cs=xs++ys∧Shp P t xs∧ShpF P gs ys∧gs.map (·.type)=ts:=by
 cases h with
 |nil=>cases e
 |cons f fs xs ys h1 h2=>
  simp only[List.map_cons,List.cons.injEq]at e
  obtain⟨rfl,rfl⟩:=e
  exact⟨fs,xs,ys,rfl,h1,h2,rfl⟩
theorem shpF_nil{P:Program}{fs:List Field}{cs:List U}(h:ShpF P fs cs)(e:fs.map (·.type)=[]):cs=[]:=by
 cases h with
 |nil=>rfl
 |cons=>cases e
theorem zEu{cs:List U}(h:Shp Tryd.prog 24 cs):∃a b:Int,cs=[.int .i64 a,.int .i64 b]:=by
 obtain⟨fs,e,hf⟩:=zDz h (by rw[f24];simp)
 rw[f24]at e
 obtain⟨g1,a1,b1,rfl,k1,r1,e1⟩:=yz hf e
 obtain⟨g2,a2,b2,rfl,k2,r2,e2⟩:=yz r1 e1
 obtain rfl:=shpF_nil r2 e2
 obtain⟨x,rfl⟩:=zCS k1
 obtain⟨y,rfl⟩:=zCS k2
 exact⟨x,y,rfl⟩
theorem shpL_map{P:Program}{e:TypeId}{α:Type}{f:α→List U}{css:List (List U)}(h:ShpL P e css)(k:∀cs,Shp P e cs→∃q,cs=f q):∃l:List α,css=l.map f:=by
 induction css with
 |nil=>exact⟨[],rfl⟩
 |cons cs css ih=>
  cases h with
  |cons _ _ _ h1 h2=>
   obtain⟨q,rfl⟩:=k _ h1
   obtain⟨l,rfl⟩:=ih h2
   exact⟨q::l,rfl⟩
theorem zFQ{P:Program}{t e:TypeId}{cs:List U}(hu:P.underlying t=some (.slice e))(h:Shp P t cs):∃css,ShpL P e css∧cs=[.lst .ro (P.cellsOf e) (css.map (eU P e))]:=by
 cases h with
 |slice _ e' css hu' hl=>rw[hu]at hu';cases hu';exact⟨css,hl,rfl⟩
 |int _ k n hu' _=>rw[hu]at hu';cases hu'
 |bool _ _ hu'=>rw[hu]at hu';cases hu'
 |str _ _ hu'=>rw[hu]at hu';cases hu'
 |struct _ _ _ hu'=>rw[hu]at hu';cases hu'
 |array _ _ _ _ hu'=>rw[hu]at hu';cases hu'
theorem eu68:∀cs,eU Tryd.prog 68 cs=.agg cs:=by
 obtain⟨fs,h⟩:=zDt (P:=Tryd.prog) (t:=68) 2 (by kernel_rfl)
 intro cs;unfold eU;rw[h]
theorem eu24:∀cs,eU Tryd.prog 24 cs=.agg cs:=by
 obtain⟨fs,h⟩:=zDt (P:=Tryd.prog) (t:=24) 2 (by kernel_rfl)
 intro cs;unfold eU;rw[h]
theorem eu3:∀cs,eU Tryd.prog 3 cs=cs.headD .junk:=by
 intro cs;unfold eU;rw[u3]
theorem map_ints{F:List U→U}(he:∀cs,F cs=cs.headD .junk)(l:List Int):(l.map fun n:Int=>[U.int .i64 n]).map F=zE l:=by
 rw[List.map_map]
 exact List.map_congr_left fun q _=>he _
theorem shp_ints{cs:List U}(h:Shp Tryd.prog 22 cs):∃l:List Int,cs=[.lst .ro 1 (zE l)]:=by
 obtain⟨css,hl,rfl⟩:=zFQ u22 h
 obtain⟨l,rfl⟩:=shpL_map (f:=fun n:Int=>[.int .i64 n]) hl fun cs hcs=>zCS hcs
 refine⟨l,?_⟩
 rw[clq3,map_ints eu3]
theorem map_twos{F:List U→U}(he:∀cs,F cs=.agg cs)(l:List Two):(l.map fun q:Two=>[U.int .i64 q.a,.int .i64 q.b]).map F=yj l:=by
 rw[List.map_map]
 exact List.map_congr_left fun q _=>he _
theorem shp_spans{cs:List U}(h:Shp Tryd.prog 66 cs):∃l:List Two,cs=[.lst .ro 2 (yj l)]:=by
 obtain⟨css,hl,rfl⟩:=zFQ u66 h
 obtain⟨l,rfl⟩:=shpL_map (f:=fun q:Two=>[.int .i64 q.a,.int .i64 q.b]) hl fun cs hcs=>by obtain⟨x,y,rfl⟩:=zEu hcs;exact⟨⟨x,y⟩,rfl⟩
 refine⟨l,?_⟩
 rw[clq24,map_twos eu24]
theorem shp_player{cs:List U}(h:Shp Tryd.prog 68 cs):∃p:Pl,cs=p.cs:=by
 obtain⟨fs,e,hf⟩:=zDz h (by rw[f68];simp)
 rw[f68]at e
 obtain⟨g1,a1,b1,rfl,k1,r1,e1⟩:=yz hf e
 obtain⟨g2,a2,b2,rfl,k2,r2,e2⟩:=yz r1 e1
 obtain rfl:=shpF_nil r2 e2
 obtain⟨x,y,rfl⟩:=zEu k1
 obtain⟨l,rfl⟩:=shp_spans k2
 exact⟨⟨x,y,l⟩,rfl⟩
theorem map_pls{F:List U→U}(he:∀cs,F cs=.agg cs)(l:List Pl):(l.map fun q:Pl=>q.cs).map F=plsU l:=by
 rw[List.map_map]
 exact List.map_congr_left fun q _=>he _
theorem shp_players{cs:List U}(h:Shp Tryd.prog 25 cs):∃l:List Pl,cs=[.lst .ro 3 (plsU l)]:=by
 obtain⟨css,hl,rfl⟩:=zFQ u25 h
 obtain⟨l,rfl⟩:=shpL_map (f:=fun q:Pl=>q.cs) hl fun cs hcs=>shp_player hcs
 refine⟨l,?_⟩
 rw[clq68,map_pls eu68]
theorem shp_bk{cs:List U}(h:Shp Tryd.prog 27 cs):∃b:Bk,cs=b.cs:=by
 obtain⟨fs,e,hf⟩:=zDz h (by rw[f27];simp)
 rw[f27]at e
 obtain⟨g1,a1,b1,rfl,k1,r1,e1⟩:=yz hf e
 obtain⟨g2,a2,b2,rfl,k2,r2,e2⟩:=yz r1 e1
 obtain⟨g3,a3,b3,rfl,k3,r3,e3⟩:=yz r2 e2
 obtain⟨g4,a4,b4,rfl,k4,r4,e4⟩:=yz r3 e3
 obtain⟨g5,a5,b5,rfl,k5,r5,e5⟩:=yz r4 e4
 obtain⟨g6,a6,b6,rfl,k6,r6,e6⟩:=yz r5 e5
 obtain⟨g7,a7,b7,rfl,k7,r7,e7⟩:=yz r6 e6
 obtain⟨g8,a8,b8,rfl,k8,r8,e8⟩:=yz r7 e7
 obtain⟨g9,a9,b9,rfl,k9,r9,e9⟩:=yz r8 e8
 obtain rfl:=shpF_nil r9 e9
 obtain⟨parts,rfl⟩:=zCS k1
 obtain⟨size,rfl⟩:=zCS k2
 obtain⟨beats,rfl⟩:=shp_ints k3
 obtain⟨start,rfl⟩:=zCS k4
 obtain⟨fin,rfl⟩:=zCS k5
 obtain⟨tlo,thi,rfl⟩:=zEu k6
 obtain⟨slo,shi,rfl⟩:=zEu k7
 obtain⟨notice,rfl⟩:=zCS k8
 obtain⟨players,rfl⟩:=shp_players k9
 exact⟨⟨parts,size,beats,start,fin,tlo,thi,slo,shi,notice,players⟩,rfl⟩
theorem und27:∃fs,Tryd.prog.underlying 27=some (.struct fs):=zDt (P:=Tryd.prog) (t:=27) 9 (by kernel_rfl)
theorem arg_bk{u:U}(h:∃cs,u=.agg cs∧Shp Tryd.prog 27 cs):∃b:Bk,u=b.u:=by
 obtain⟨cs,rfl,h⟩:=h
 obtain⟨b,rfl⟩:=shp_bk h
 exact⟨b,rfl⟩
theorem arg_ints{u:U}(h:Shp Tryd.prog 22 [u]):∃l:List Int,u=.lst .ro 1 (zE l):=by
 obtain⟨l,e⟩:=shp_ints h
 cases e
 exact⟨l,rfl⟩
end
section
variable {is:FuncId→Bool}{orc:Known}
theorem ret10_all(hi:Off is)(r24:RetP Tryd.prog is orc 24 [] (.bool true)):∀us,ShpAs Tryd.prog [27,22] us→RetP Tryd.prog is orc 10 us (.bool true):=by
 intro us h
 cases h with
 |cons _ _ u us h1 h=>cases h with
 |cons _ _ v us h2 h=>
 cases h
 obtain⟨fs,hu⟩:=und27
 unfold ShpA at h1 h2
 rw[hu]at h1
 rw[u22]at h2
 obtain⟨b,rfl⟩:=arg_bk h1
 obtain⟨l,rfl⟩:=arg_ints h2
 exact ret10 hi b l r24
end
end Go.Proofs.YtfbmlibilcjlgaaDoor.drumFewest
