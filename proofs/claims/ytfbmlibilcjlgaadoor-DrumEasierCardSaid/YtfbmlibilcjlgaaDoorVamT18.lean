import Derived.Test.YtfbmlibilcjlgaaDoorVamT17
set_option linter.unusedVariables false
set_option linter.unusedSimpArgs false
set_option linter.constructorNameAsVariable false
namespace Go.Proofs.YtfbmlibilcjlgaaDoor.drumEasier
open Vam
section
variable {is:FuncId→Bool}{orc:Known}{b x:Bk}
def twF(l:List Two):List U:=l.flatMap fun q=>[.int .i64 q.a,.int .i64 q.b]
theorem twF_flat(l:List Two):yF (yH l)=twF l:=by
 induction l with
 |nil=>rfl
 |cons q l ih=>show [U.int .i64 q.a,.int .i64 q.b]++yF (yH l)=_;rw[ih];rfl
theorem twF_dg(l:List Two):(twF l).map dg=twF l:=by
 induction l with
 |nil=>rfl
 |cons q l ih=>show [U.int .i64 q.a,.int .i64 q.b]++(twF l).map dg=_;rw[ih];rfl
theorem twF_len(l:List Two):(twF l).length=l.length*2:=by
 induction l with
 |nil=>rfl
 |cons q l ih=>show(twF l).length+1+1=_;rw[ih];simp;omega
theorem twF_one(l:List Two):(yF (yH l)).all oneU=true:=by
 rw[twF_flat]
 induction l with
 |nil=>rfl
 |cons q l ih=>exact ih
theorem twF_set(l:List Two):∀(i:Nat) (q:Two),i<l.length→(twF l).take (i*2)++[U.int .i64 q.a,.int .i64 q.b]++(twF l).drop (i*2+2)=twF (l.set i q):=by
 induction l with
 |nil=>intro i q h;exact absurd h (Nat.not_lt_zero _)
 |cons x l ih=>
  intro i q h
  cases i with
  |zero=>rfl
  |succ i=>
   have:=ih i q (by simpa using h)
   show(U.int .i64 x.a::U.int .i64 x.b::twF l).take ((i+1)*2)++_++(U.int .i64 x.a::U.int .i64 x.b::twF l).drop ((i+1)*2+2)=U.int .i64 x.a::U.int .i64 x.b::twF (l.set i q)
   rw[←this,show(i+1)*2=i*2+1+1 by omega];rfl
theorem twF_at(l:List Two):∀(i:Nat) (p:Two),l[i]? =some p→(twF l)[i*2]? =some (.int .i64 p.a)∧(twF l)[i*2+1]? =some (.int .i64 p.b):=by
 induction l with
 |nil=>intro i p h;cases h
 |cons x l ih=>
  intro i p h
  cases i with
  |zero=>cases h;exact⟨rfl,rfl⟩
  |succ i=>
   have:=ih i p h
   show(U.int .i64 x.a::U.int .i64 x.b::twF l)[(i+1)*2]? =_∧(U.int .i64 x.a::U.int .i64 x.b::twF l)[(i+1)*2+1]? =_
   rw[show(i+1)*2=i*2+1+1 by omega];exact this
theorem plF_take(l:List Pl):∀n,(plF l).take (n*3)=plF (l.take n):=by
 induction l with
 |nil=>intro n;simp[plF]
 |cons x l ih=>
  intro n
  cases n with
  |zero=>rfl
  |succ n=>
   show(U.int .i64 x.la::U.int .i64 x.lb::U.lst .ro 2 (yH x.cat)::plF l).take ((n+1)*3)=U.int .i64 x.la::U.int .i64 x.lb::U.lst .ro 2 (yH x.cat)::plF (l.take n)
   rw[←ih n,show(n+1)*3=n*3+1+1+1 by omega];rfl
theorem zFV(j:Nat)(q:Pl)(h:b.players[j]? =some q):∃p:Pl,b.players[j]? =some p∧q.lb≤p.lb∧∀(k:Nat) (c d:Two),q.cat[k]? =some c→p.cat[k]? =some d→d.a≤c.a:=
 ⟨q,h,Int.le_refl _,fun k c d h1 h2=>by rw[h1]at h2;cases h2;exact Int.le_refl _⟩
theorem esy_time(hb:BOk b){u v:Int}(h:0≤u∧u≤b.tlo∧b.thi≤v∧v≤128000):
  BOk ⟨b.parts,b.size,b.beats,b.start,b.fin,u,v,b.slo,b.shi,b.notice,b.players⟩∧Esy b ⟨b.parts,b.size,b.beats,b.start,b.fin,u,v,b.slo,b.shi,b.notice,b.players⟩:=by
 have:=hb.ti
 exact⟨⟨hb.n4,hb.pn,hb.pl,hb.pa,hb.sz,hb.bt,hb.st,hb.fi,by show 0≤u∧u≤v∧v≤128000;omega,hb.sl,hb.no⟩,⟨rfl,rfl,rfl,rfl,rfl,by show u≤b.tlo∧b.thi≤v;omega,Int.le_refl _,zFV⟩⟩
theorem esy_slipB(hb:BOk b){u v:Int}(h:0≤u∧u≤v∧v≤b.shi):
  BOk ⟨b.parts,b.size,b.beats,b.start,b.fin,b.tlo,b.thi,u,v,b.notice,b.players⟩∧Esy b ⟨b.parts,b.size,b.beats,b.start,b.fin,b.tlo,b.thi,u,v,b.notice,b.players⟩:=by
 have:=hb.sl
 exact⟨⟨hb.n4,hb.pn,hb.pl,hb.pa,hb.sz,hb.bt,hb.st,hb.fi,hb.ti,by show 0≤u∧u≤v∧v≤100;omega,hb.no⟩,⟨rfl,rfl,rfl,rfl,rfl,⟨Int.le_refl _,Int.le_refl _⟩,h.2.2,zFV⟩⟩
theorem esy_take(hb:BOk b){n:Nat}(h:1≤n∧n≤b.players.length):
  BOk ⟨b.parts,b.size,b.beats,b.start,b.fin,b.tlo,b.thi,b.slo,b.shi,b.notice,b.players.take n⟩∧Esy b ⟨b.parts,b.size,b.beats,b.start,b.fin,b.tlo,b.thi,b.slo,b.shi,b.notice,b.players.take n⟩:=by
 have hp:=hb.pn
 refine⟨⟨hb.n4,by show 1≤(b.players.take n).length∧(b.players.take n).length≤5;rw[List.length_take];omega,fun p hq=>hb.pl p (List.mem_of_mem_take hq),hb.pa,hb.sz,hb.bt,hb.st,hb.fi,hb.ti,hb.sl,hb.no⟩,⟨rfl,rfl,rfl,rfl,rfl,⟨Int.le_refl _,Int.le_refl _⟩,Int.le_refl _,fun j q hq=>?_⟩⟩
 have hq:(b.players.take n)[j]? =some q:=hq
 rw[List.getElem?_take]at hq
 split at hq
 ·exact zFV j q hq
 ·cases hq
theorem ty70:tyOf Tryd.prog 70=.array 4 3:=by kernel_rfl
noncomputable def b12:Code:=(Tryd.f12.body).getD .skip
theorem body12:bodyOf Tryd.prog 12=some (255,b12,[.tmp 6]):=by kernel_rfl
theorem pure12:pureFn Tryd.prog 12=false:=by kernel_rfl
abbrev n4C(n0 n1 n2 n3:Int):List U:=[.int .i64 n0,.int .i64 n1,.int .i64 n2,.int .i64 n3]
structure EsS(b:Bk)(n0 n1 n2 n3:Int)(bits:List Int)(s:St):Prop where
 ex:∃(x:Bk) (C:List U) (e:List SB) (m:Nat),BOk x∧Esy b x∧x.players.length=m∧m*3≤C.length∧C.take (m*3)=plF x.players∧C.map dg=C∧s.st=[.box [.int .i64 b.parts,.int .i64 b.size,.lst .ro 1 (zE b.beats),.int .i64 b.start,.int .i64 b.fin,.int .i64 b.tlo,.int .i64 b.thi,.int .i64 b.slo,.int .i64 b.shi,.int .i64 b.notice,.lst .ro 3 (plsU b.players)],.box (n4C n0 n1 n2 n3),.box (bC x (.sl 3 0 m 3)),.box C]++e
 sl:Holds s [(1,.lst .ro 1 (zE bits)),(3,.box 0 0),(7,.box 2 0)]
set_option maxHeartbeats 16000000 in
set_option maxRecDepth 20000 in
theorem ret12(hi:Off is)(b:Bk)(bits:List Int)(n0 n1 n2 n3:Int)(r24:RetP Tryd.prog is orc 24 [] (.bool true)):RetP Tryd.prog is orc 12 [b.u,.lst .ro 1 (zE bits),.agg (n4C n0 n1 n2 n3)] (.bool true):=by
 have q38:=ret38 (orc:=orc) hi b
 have hda:∀u∈[b.u,.lst .ro 1 (zE bits),.agg (n4C n0 n1 n2 n3)],Dat 8 u:=fun u hu=>by
  simp only[List.mem_cons,List.not_mem_nil,or_false]at hu
  rcases hu with rfl|rfl|rfl
  ·exact yi b 4
  ·exact yc 6 .ro (fun h=>by cases h) 1 bits
  ·exact .agg _ _ fun c hc=>by
    simp only[List.mem_cons,List.not_mem_nil,or_false]at hc
    rcases hc with rfl|rfl|rfl|rfl<;>exact .int _ _ _
 refine zAC body12 pure12 rfl rfl (fun u hu=>⟨(hda u hu).nb,(hda u hu).own⟩) (Dat.bool 8 true).nb ?_
 cases hv:zDf b with
 |false=>
  rw[hv]at q38
  refine kQ (yD rfl rfl (yD rfl rfl (zB rfl (zC ?_))))
  refine zO [(1,.lst .ro 1 (zE bits)),(3,U.box 0 0),(5,U.box 1 0)] ([SB.box [.int .i64 (Bk.parts b),.int .i64 (Bk.size b),.lst .ro 1 (zE (Bk.beats b)),.int .i64 (Bk.start b),.int .i64 (Bk.fin b),.int .i64 (Bk.tlo b),.int .i64 (Bk.thi b),.int .i64 (Bk.slo b),.int .i64 (Bk.shi b),.int .i64 (Bk.notice b),.lst .ro 3 (plsU (Bk.players b))],SB.box [.int .i64 n0,.int .i64 n1,.int .i64 n2,.int .i64 n3]]) (.cons rfl (.cons rfl (.cons rfl (.nil rfl)))) rfl fun fr=>?_
  refine k_seq (kQ (zN rfl rfl rfl sh27 rfl (zP rfl (q38) (.lrefl _) (wn rfl rfl (zC (k_cT rfl rfl ?_))))))
  refine kQ (zP rfl (r24) (.lrefl _) (zB rfl (zC (zZ ?_))))
  refine⟨.inr rfl,_,.cons _ _ _ _ (.tmp 6) .nil,?_⟩
  exact .refl _
 |true=>
  rw[hv]at q38
  have h:=(zCb b).1 hv
  have hpn:=h.pn
  have qi:=ret46 (orc:=orc) hi n1 b.players.length (by omega)
  have hib:=zEH (n:=n1) (b:=b.players.length) (by omega)
  obtain⟨i,hi1⟩:∃i:Nat,zDO n1 b.players.length=i:=⟨(zDO n1 b.players.length).toNat,by omega⟩
  rw[hi1]at qi hib
  have qy:=ret46 (orc:=orc) hi n2 9 (by omega)
  have hyb:=zEH (n:=n2) (b:=9) (by omega)
  generalize zDO n2 9=y at*
  have ql:=ret46 (orc:=orc) hi n3 4 (by omega)
  have hlb:=zEH (n:=n3) (b:=4) (by omega)
  obtain⟨lv,hlv⟩:∃lv:Nat,zDO n3 4=lv:=⟨(zDO n3 4).toNat,by omega⟩
  rw[hlv]at ql hlb
  have qt:=ret46 (orc:=orc) hi n0 5 (by omega)
  have htb:=zEH (n:=n0) (b:=5) (by omega)
  generalize zDO n0 5=tt at*
  have hlen:=zEN b.players
  obtain⟨p,hp⟩:∃p,b.players[i]? =some p:=⟨b.players[i]'(by omega),List.getElem?_eq_getElem (by omega)⟩
  have hpo:=pl_ok h hp
  refine kQ (yD rfl rfl (yD rfl rfl (zB rfl (zC ?_))))
  refine zO [(1,.lst .ro 1 (zE bits)),(3,U.box 0 0),(5,U.box 1 0)] ([SB.box [.int .i64 (Bk.parts b),.int .i64 (Bk.size b),.lst .ro 1 (zE (Bk.beats b)),.int .i64 (Bk.start b),.int .i64 (Bk.fin b),.int .i64 (Bk.tlo b),.int .i64 (Bk.thi b),.int .i64 (Bk.slo b),.int .i64 (Bk.shi b),.int .i64 (Bk.notice b),.lst .ro 3 (plsU (Bk.players b))],SB.box [.int .i64 n0,.int .i64 n1,.int .i64 n2,.int .i64 n3]]) (.cons rfl (.cons rfl (.cons rfl (.nil rfl)))) rfl fun fr=>?_
  refine k_seq (kQ (zN rfl rfl rfl sh27 rfl (zP rfl (q38) (.lrefl _) (wn rfl rfl (zC (k_cF rfl rfl ?_))))))
  refine zW (kQ (zN rfl rfl rfl sh27 rfl (zt rfl ze27 ?_)))
  refine zh rfl rfl sh27 rfl rfl rfl rfl rfl ?_
  refine zC ?_
  refine zO [(1,.lst .ro 1 (zE bits)),(3,U.box 0 0),(5,U.box 1 0),(7,U.box 2 0)] ([SB.box [.int .i64 (Bk.parts b),.int .i64 (Bk.size b),.lst .ro 1 (zE (Bk.beats b)),.int .i64 (Bk.start b),.int .i64 (Bk.fin b),.int .i64 (Bk.tlo b),.int .i64 (Bk.thi b),.int .i64 (Bk.slo b),.int .i64 (Bk.shi b),.int .i64 (Bk.notice b),.lst .ro 3 (plsU (Bk.players b))],SB.box [.int .i64 n0,.int .i64 n1,.int .i64 n2,.int .i64 n3],SB.box [.int .i64 (Bk.parts b),.int .i64 (Bk.size b),.lst .ro 1 (zE (Bk.beats b)),.int .i64 (Bk.start b),.int .i64 (Bk.fin b),.int .i64 (Bk.tlo b),.int .i64 (Bk.thi b),.int .i64 (Bk.slo b),.int .i64 (Bk.shi b),.int .i64 (Bk.notice b),.lst .ro 3 (plsU (Bk.players b))]]) (.c4 rfl rfl rfl rfl (.nil rfl)) rfl fun fr=>?_
  refine k_seq (zAc [.plain,.read true,.plain,.read true,.read true,.read false,.plain,.read true,.read false,.plain,.read true,.plain,.plain,.plain,.plain] (by kernel_rfl) (by kernel_rfl) (by kernel_rfl) ?_)
  refine zF (zFs rfl ty70 rfl rfl (by omega) (by omega) cl3 (zC rfl)) ?_
  refine yA rfl (zG rfl rfl rfl sh3 rfl (zC rfl)) (zF (zD rfl rfl yY (zC rfl)) ?_)
  refine yA rfl (zG rfl rfl rfl sh25 rfl (zC rfl)) (yA rfl (wO rfl ty25 rfl (List.length_map _) (zC rfl)) ?_)
  refine zCG rfl (qi) (.int _ _) (.lrefl _) ?_
  refine zF (zFs rfl ty70 rfl rfl (by omega) (by omega) cl3 (zC rfl)) ?_
  refine yA rfl (zG rfl rfl rfl sh3 rfl (zC rfl)) (zCG rfl (qy) (.int _ _) (.lrefl _) ?_)
  refine zAi [(1,.lst .ro 1 (zE bits)),(3,U.box 0 0),(5,U.box 1 0),(7,U.box 2 0),(34,.int .i64 ↑i),(37,.int .i64 y)] [] ([SB.box [.int .i64 (Bk.parts b),.int .i64 (Bk.size b),.lst .ro 1 (zE (Bk.beats b)),.int .i64 (Bk.start b),.int .i64 (Bk.fin b),.int .i64 (Bk.tlo b),.int .i64 (Bk.thi b),.int .i64 (Bk.slo b),.int .i64 (Bk.shi b),.int .i64 (Bk.notice b),.lst .ro 3 (plsU (Bk.players b))],SB.box [.int .i64 n0,.int .i64 n1,.int .i64 n2,.int .i64 n3],SB.box [.int .i64 (Bk.parts b),.int .i64 (Bk.size b),.lst .ro 1 (zE (Bk.beats b)),.int .i64 (Bk.start b),.int .i64 (Bk.fin b),.int .i64 (Bk.tlo b),.int .i64 (Bk.thi b),.int .i64 (Bk.slo b),.int .i64 (Bk.shi b),.int .i64 (Bk.notice b),.lst .ro 3 (plsU (Bk.players b))]]) (.c4 rfl rfl rfl rfl (.cons rfl (.cons rfl (.nil rfl)))) rfl rfl fun fr=>?_
  refine zF (zFs rfl ty70 rfl rfl (by omega) (by omega) cl3 (zC rfl)) ?_
  refine yA rfl (zG rfl rfl rfl sh3 rfl (zC rfl)) (zF (zP rfl (ql) (.lrefl _) (zC rfl)) ?_)
  refine zF (zB rfl (zC rfl)) ?_
  refine zF (zB rfl (zC rfl)) ?_
  refine zF (zB rfl (zC rfl)) ?_
  refine zCY ?_
  refine zO [(1,.lst .ro 1 (zE bits)),(3,U.box 0 0),(5,U.box 1 0),(7,U.box 2 0),(8,.int .i64 ↑i),(9,.int .i64 y),(10,.int .i64 ↑lv)] ([SB.box [.int .i64 (Bk.parts b),.int .i64 (Bk.size b),.lst .ro 1 (zE (Bk.beats b)),.int .i64 (Bk.start b),.int .i64 (Bk.fin b),.int .i64 (Bk.tlo b),.int .i64 (Bk.thi b),.int .i64 (Bk.slo b),.int .i64 (Bk.shi b),.int .i64 (Bk.notice b),.lst .ro 3 (plsU (Bk.players b))],SB.box [.int .i64 n0,.int .i64 n1,.int .i64 n2,.int .i64 n3],SB.box [.int .i64 (Bk.parts b),.int .i64 (Bk.size b),.lst .ro 1 (zE (Bk.beats b)),.int .i64 (Bk.start b),.int .i64 (Bk.fin b),.int .i64 (Bk.tlo b),.int .i64 (Bk.thi b),.int .i64 (Bk.slo b),.int .i64 (Bk.shi b),.int .i64 (Bk.notice b),.lst .ro 3 (plsU (Bk.players b))]]) (.c4 rfl rfl rfl rfl (.cons rfl (.cons rfl (.cons rfl (.nil rfl))))) rfl fun fr=>?_
  refine kQ (zCX (es:=[]) rfl ty25 ze68 cl68 rfl rfl rfl rfl rfl rfl rfl rfl ?_)
  refine zD rfl rfl yY (zG rfl rfl rfl sh25 rfl (zFw rfl ap25_25 rfl rfl (by simp) (by simp) (plsU_one _) (by rw[zDl,zDK]) (List.length_map _) (by omega) (by omega) ?_))
  refine zD rfl rfl yY (zAU rfl rfl sh25 rfl rfl (zC ?_))
  refine zO [(1,.lst .ro 1 (zE bits)),(3,U.box 0 0),(5,U.box 1 0),(7,U.box 2 0),(8,.int .i64 ↑i),(9,.int .i64 y),(10,.int .i64 ↑lv)] ([SB.box [.int .i64 (Bk.parts b),.int .i64 (Bk.size b),.lst .ro 1 (zE (Bk.beats b)),.int .i64 (Bk.start b),.int .i64 (Bk.fin b),.int .i64 (Bk.tlo b),.int .i64 (Bk.thi b),.int .i64 (Bk.slo b),.int .i64 (Bk.shi b),.int .i64 (Bk.notice b),.lst .ro 3 (plsU (Bk.players b))],SB.box [.int .i64 n0,.int .i64 n1,.int .i64 n2,.int .i64 n3],SB.box [.int .i64 (Bk.parts b),.int .i64 (Bk.size b),.lst .ro 1 (zE (Bk.beats b)),.int .i64 (Bk.start b),.int .i64 (Bk.fin b),.int .i64 (Bk.tlo b),.int .i64 (Bk.thi b),.int .i64 (Bk.slo b),.int .i64 (Bk.shi b),.int .i64 (Bk.notice b),U.sl 3 0 (List.length (Bk.players b)) 3],SB.box (plF (Bk.players b))]) (.c4 rfl rfl rfl rfl (.cons rfl (.cons rfl (.cons rfl (.nil rfl))))) rfl fun fr=>?_
  have hti:=h.ti
  have hsl:=h.sl
  have hil:=(List.getElem?_eq_some_iff.1 hp).1
  have hset:∀q:Pl,(plF b.players).take (0+(i:Int).toNat*3)++q.cs.map dg++(plF b.players).drop (0+(i:Int).toNat*3+3)=plF (b.players.set i q):=fun q=>by
   rw[Int.toNat_natCast,Nat.zero_add];exact plF_set b.players i q hil
  have fin:∀(q:Pl),(plF (b.players.set i q)).take (b.players.length*3)=plF (b.players.set i q):=fun q=>List.take_of_length_le (by rw[zEN,List.length_set];exact Nat.le_refl _)
  have fle:∀(q:Pl),b.players.length*3≤(plF (b.players.set i q)).length:=fun q=>by rw[zEN,List.length_set];exact Nat.le_refl _
  have hpl2:(plF b.players).take (b.players.length*3)=plF b.players:=List.take_of_length_le (by rw[hlen];exact Nat.le_refl _)
  have fn:∀(q:Pl),(b.players.set i q).length=b.players.length:=fun q=>List.length_set
  have hT:twF p.cat=(yF (yH p.cat)).map dg:=by rw[twF_flat,twF_dg]
  obtain⟨c,hc⟩:∃c,p.cat[lv]? =some c:=⟨p.cat[lv]'(by omega),List.getElem?_eq_getElem (by omega)⟩
  have hca:=twF_at _ _ _ hc
  have hca1:(twF p.cat)[0+(lv:Int).toNat*2]? =some (.int .i64 c.a):=by rw[Int.toNat_natCast,Nat.zero_add];exact hca.1
  have hca2:(twF p.cat)[0+(lv:Int).toNat*2+1]? =some (.int .i64 c.b):=by rw[Int.toNat_natCast,Nat.zero_add];exact hca.2
  have hcb:=hpo.2.2 c (List.mem_of_getElem? hc)
  have htl:=twF_len p.cat
  have hts:∀q:Two,(twF p.cat).take (0+(lv:Int).toNat*2)++[U.int .i64 q.a,.int .i64 q.b].map dg++(twF p.cat).drop (0+(lv:Int).toNat*2+2)=twF (p.cat.set lv q):=fun q=>by
   rw[Int.toNat_natCast,Nat.zero_add];exact twF_set p.cat lv q (by omega)
  refine k_cut (EsS b n0 n1 n2 n3 bits) ?_ (fun st hM=>?_)
  ·refine kQ ?_
   refine zFs rfl ty70 rfl rfl (by omega) (by omega) cl3 ?_
   refine zG rfl rfl rfl sh3 rfl (zP rfl (qt) (.lrefl _) (zC (zT (kQ (wd rfl rfl rfl (zB rfl (zC ?_)))))))
   refine zGF rfl (fun h65=>?_) (fun h65=>?_)
   ·refine kQ ?_
    refine zCX (es:=[]) rfl ty66 ze24 cl24 rfl rfl rfl rfl rfl rfl rfl rfl ?_
    refine zD rfl rfl yY (zG rfl rfl rfl sh25 rfl (zA rfl (zAD (u:=(p).u) rfl ty25 rfl rfl (Int.natCast_nonneg _) (by simp[hp]) cl68 ?_)))
    refine zFN rfl rfl zBb ?_
    refine yl rfl rfl sh66 rfl ?_
    refine zFw rfl ap66_66 rfl rfl (by simp) (by simp) (twF_one _) hT.symm (List.length_map _) (by omega) (by omega) ?_
    refine zB rfl (zC ?_)
    refine zO [(1,.lst .ro 1 (zE bits)),(3,U.box 0 0),(7,U.box 2 0),(8,.int .i64 ↑i),(9,.int .i64 y),(10,.int .i64 ↑lv),(11,U.sl 4 0 (List.length (Pl.cat p)) 2)] ([SB.box [.int .i64 (Bk.parts b),.int .i64 (Bk.size b),.lst .ro 1 (zE (Bk.beats b)),.int .i64 (Bk.start b),.int .i64 (Bk.fin b),.int .i64 (Bk.tlo b),.int .i64 (Bk.thi b),.int .i64 (Bk.slo b),.int .i64 (Bk.shi b),.int .i64 (Bk.notice b),.lst .ro 3 (plsU (Bk.players b))],SB.box [.int .i64 n0,.int .i64 n1,.int .i64 n2,.int .i64 n3],SB.box [.int .i64 (Bk.parts b),.int .i64 (Bk.size b),.lst .ro 1 (zE (Bk.beats b)),.int .i64 (Bk.start b),.int .i64 (Bk.fin b),.int .i64 (Bk.tlo b),.int .i64 (Bk.thi b),.int .i64 (Bk.slo b),.int .i64 (Bk.shi b),.int .i64 (Bk.notice b),U.sl 3 0 (List.length (Bk.players b)) 3],SB.box (plF (Bk.players b)),SB.box (twF (Pl.cat p))]) (.c4 rfl rfl rfl rfl (.cons rfl (.cons rfl (.cons rfl (.nil rfl))))) rfl fun fr=>?_
    refine k_seq (zAc [.plain,.plain,.plain,.plain,.plain,.plain,.read true,.plain,.plain,.read true,.plain,.plain,.plain,.plain,.read true,.plain,.plain,.read true,.plain,.plain,.plain] (by kernel_rfl) (by kernel_rfl) (by kernel_rfl) ?_)
    refine zF (zA rfl (zC rfl)) (zF (zA rfl (zC rfl)) (zF (zA rfl (zC rfl)) (zF (zA rfl (zC rfl)) (zF (zGo rfl ty66 rfl rfl (Int.natCast_nonneg _) (by omega) cl24 (zC rfl)) ?_))))
    refine zF (zD rfl rfl yj (zC rfl)) ?_
    refine yA rfl (zG rfl rfl rfl sh3 hca1 (zC rfl)) ?_
    refine zF (zA rfl (zC rfl)) ?_
    refine zF (wJ rfl rfl rfl (by unfold I64;omega) (zC rfl)) ?_
    refine zAi [(1,.lst .ro 1 (zE bits)),(3,U.box 0 0),(7,U.box 2 0),(8,.int .i64 ↑i),(9,.int .i64 y),(10,.int .i64 ↑lv),(11,U.sl 4 0 (List.length (Pl.cat p)) 2),(75,U.sl 4 0 (List.length (Pl.cat p)) 2),(76,.int .i64 ↑lv),(83,.int .i64 (Two.a c+y))] [] ([SB.box [.int .i64 (Bk.parts b),.int .i64 (Bk.size b),.lst .ro 1 (zE (Bk.beats b)),.int .i64 (Bk.start b),.int .i64 (Bk.fin b),.int .i64 (Bk.tlo b),.int .i64 (Bk.thi b),.int .i64 (Bk.slo b),.int .i64 (Bk.shi b),.int .i64 (Bk.notice b),.lst .ro 3 (plsU (Bk.players b))],SB.box [.int .i64 n0,.int .i64 n1,.int .i64 n2,.int .i64 n3],SB.box [.int .i64 (Bk.parts b),.int .i64 (Bk.size b),.lst .ro 1 (zE (Bk.beats b)),.int .i64 (Bk.start b),.int .i64 (Bk.fin b),.int .i64 (Bk.tlo b),.int .i64 (Bk.thi b),.int .i64 (Bk.slo b),.int .i64 (Bk.shi b),.int .i64 (Bk.notice b),U.sl 3 0 (List.length (Bk.players b)) 3],SB.box (plF (Bk.players b)),SB.box (twF (Pl.cat p))]) (.c4 rfl rfl rfl rfl (.c4 rfl rfl rfl rfl (.cons rfl (.cons rfl (.nil rfl))))) rfl rfl fun fr=>?_
    refine yA rfl (o_min rfl rfl rfl (zC rfl)) ?_
    refine zF (zA rfl (zC rfl)) (zF (zA rfl (zC rfl)) (zF (zGo rfl ty66 rfl rfl (Int.natCast_nonneg _) (by omega) cl24 (zC rfl)) ?_))
    refine zF (zD rfl rfl wQ (zC rfl)) ?_
    refine yA rfl (zG rfl rfl rfl sh3 hca2 (zC rfl)) ?_
    refine zF (zA rfl (zC rfl)) ?_
    refine zF (wJ rfl rfl rfl (by unfold I64;omega) (zC rfl)) ?_
    refine yA rfl (o_min rfl rfl rfl (zC rfl)) ?_
    refine zAi [(1,.lst .ro 1 (zE bits)),(3,U.box 0 0),(7,U.box 2 0),(8,.int .i64 ↑i),(11,U.sl 4 0 (List.length (Pl.cat p)) 2),(75,U.sl 4 0 (List.length (Pl.cat p)) 2),(76,.int .i64 ↑lv),(84,.int .i64 (Min.min (100:Int) (Two.a c+y))),(92,.int .i64 (Min.min (100:Int) (Two.b c+y)))] [] ([SB.box [.int .i64 (Bk.parts b),.int .i64 (Bk.size b),.lst .ro 1 (zE (Bk.beats b)),.int .i64 (Bk.start b),.int .i64 (Bk.fin b),.int .i64 (Bk.tlo b),.int .i64 (Bk.thi b),.int .i64 (Bk.slo b),.int .i64 (Bk.shi b),.int .i64 (Bk.notice b),.lst .ro 3 (plsU (Bk.players b))],SB.box [.int .i64 n0,.int .i64 n1,.int .i64 n2,.int .i64 n3],SB.box [.int .i64 (Bk.parts b),.int .i64 (Bk.size b),.lst .ro 1 (zE (Bk.beats b)),.int .i64 (Bk.start b),.int .i64 (Bk.fin b),.int .i64 (Bk.tlo b),.int .i64 (Bk.thi b),.int .i64 (Bk.slo b),.int .i64 (Bk.shi b),.int .i64 (Bk.notice b),U.sl 3 0 (List.length (Bk.players b)) 3],SB.box (plF (Bk.players b)),SB.box (twF (Pl.cat p))]) (.c4 rfl rfl rfl rfl (.c4 rfl rfl rfl rfl (.cons rfl (.nil rfl)))) rfl rfl fun fr=>?_
    refine zF (zP rfl (ret48 hi _ _) (.lrefl _) (zC rfl)) ?_
    refine zF (zGo rfl ty66 rfl rfl (Int.natCast_nonneg _) (by omega) cl24 (zC rfl)) ?_
    refine zF (zDn rfl rfl sh24 rfl rfl rfl (by rw[htl];omega) rfl (hts ⟨_,_⟩) (zC rfl)) ?_
    refine zCY ?_
    refine zO [(1,.lst .ro 1 (zE bits)),(3,U.box 0 0),(7,U.box 2 0),(8,.int .i64 ↑i),(11,U.sl 4 0 (List.length (Pl.cat p)) 2)] ([SB.box [.int .i64 (Bk.parts b),.int .i64 (Bk.size b),.lst .ro 1 (zE (Bk.beats b)),.int .i64 (Bk.start b),.int .i64 (Bk.fin b),.int .i64 (Bk.tlo b),.int .i64 (Bk.thi b),.int .i64 (Bk.slo b),.int .i64 (Bk.shi b),.int .i64 (Bk.notice b),.lst .ro 3 (plsU (Bk.players b))],SB.box [.int .i64 n0,.int .i64 n1,.int .i64 n2,.int .i64 n3],SB.box [.int .i64 (Bk.parts b),.int .i64 (Bk.size b),.lst .ro 1 (zE (Bk.beats b)),.int .i64 (Bk.start b),.int .i64 (Bk.fin b),.int .i64 (Bk.tlo b),.int .i64 (Bk.thi b),.int .i64 (Bk.slo b),.int .i64 (Bk.shi b),.int .i64 (Bk.notice b),U.sl 3 0 (List.length (Bk.players b)) 3],SB.box (plF (Bk.players b)),SB.box (twF (List.set (Pl.cat p) lv {a:=Min.min (100:Int) (Two.a c+y),b:=Min.min (100:Int) (Two.b c+y)}))]) (.c4 rfl rfl rfl rfl (.cons rfl (.nil rfl))) rfl fun fr=>?_
    obtain⟨D,hD⟩:∃D,D=p.cat.set lv ⟨min 100 (c.a+y),min 100 (c.b+y)⟩:=⟨_,rfl⟩
    rw[←hD]
    have hDl:D.length=p.cat.length:=by rw[hD,List.length_set]
    have hDr:∀d∈D,0≤d.a∧d.a≤d.b∧d.b≤100:=fun d hd=>by
     rw[hD]at hd
     rcases List.mem_or_eq_of_mem_set hd with hd|rfl
     ·exact hpo.2.2 d hd
     ·show 0≤min 100 (c.a+y)∧min 100 (c.a+y)≤min 100 (c.b+y)∧min 100 (c.b+y)≤100;omega
    have hDe:∀(k:Nat) (u v:Two),D[k]? =some u→p.cat[k]? =some v→v.a≤u.a:=fun k u v h1 h2=>by
     rw[hD,List.getElem?_set]at h1
     by_cases e:lv=k
     ·subst e
      rw[hc]at h2;cases h2
      rw[if_pos rfl,if_pos (by omega)]at h1
      cases h1;show c.a≤min 100 (c.a+y);omega
     ·rw[if_neg e]at h1
      rw[h1]at h2;cases h2;exact Int.le_refl _
    have hfs:yF (yH D)=(((twF D).map dg).drop 0).take (p.cat.length*2):=by
     rw[twF_dg,twF_flat,List.drop_zero,List.take_of_length_le (by rw[twF_len,hDl];exact Nat.le_refl _)]
    have hez:∀e∈yH D,(zw e).length=2:=fun e he=>by
     obtain⟨q,_,rfl⟩:=List.mem_map.1 he;rfl
    have hel:(yH D).length=p.cat.length:=by rw[List.length_map,hDl]
    have hle:0+p.cat.length*2≤((twF D).map dg).length:=by rw[twF_dg,twF_len,hDl];omega
    refine k_frz (a:=4) rfl ?_
    refine k_see 11 rfl (fun _=>rfl) (.sl _ _ _ _ _ _ rfl hfs hez hel hle) ?_
    refine zAc [.plain,.read true,.plain,.plain,.read true,.plain,.plain,.plain,.read true,.plain,.plain,.plain,.plain] (by kernel_rfl) (by kernel_rfl) (by kernel_rfl) ?_
    refine zF (zD rfl rfl yY (zC rfl)) ?_
    refine yA rfl (zG rfl rfl rfl sh25 rfl (zC rfl)) (zF (zA rfl (zC rfl)) (zF (zD rfl rfl yY (zC rfl)) ?_))
    refine yA rfl (zG rfl rfl rfl sh25 rfl (zC rfl)) (zF (zA rfl (zC rfl)) (zF (zAD (u:=(p).u) rfl ty25 rfl rfl (Int.natCast_nonneg _) (by simp[hp]) cl68 (zC rfl)) ?_))
    refine zF (zFN rfl rfl zCq (zC rfl)) ?_
    refine yA rfl (wj rfl rfl sh24 rfl (zC rfl)) ?_
    refine zAi [(1,.lst .ro 1 (zE bits)),(3,U.box 0 0),(7,U.box 2 0),(11,.lst .ro 2 (yH D)),(96,U.sl 3 0 (List.length (Bk.players b)) 3),(97,.int .i64 ↑i),(103,U.agg [.int .i64 (Pl.la p),.int .i64 (Pl.lb p)])] [] ([SB.box [.int .i64 (Bk.parts b),.int .i64 (Bk.size b),.lst .ro 1 (zE (Bk.beats b)),.int .i64 (Bk.start b),.int .i64 (Bk.fin b),.int .i64 (Bk.tlo b),.int .i64 (Bk.thi b),.int .i64 (Bk.slo b),.int .i64 (Bk.shi b),.int .i64 (Bk.notice b),.lst .ro 3 (plsU (Bk.players b))],SB.box [.int .i64 n0,.int .i64 n1,.int .i64 n2,.int .i64 n3],SB.box [.int .i64 (Bk.parts b),.int .i64 (Bk.size b),.lst .ro 1 (zE (Bk.beats b)),.int .i64 (Bk.start b),.int .i64 (Bk.fin b),.int .i64 (Bk.tlo b),.int .i64 (Bk.thi b),.int .i64 (Bk.slo b),.int .i64 (Bk.shi b),.int .i64 (Bk.notice b),U.sl 3 0 (List.length (Bk.players b)) 3],SB.box (plF (Bk.players b)),SB.froz (List.map dg (twF D))]) (.c4 rfl rfl rfl rfl (.cons rfl (.cons rfl (.cons rfl (.nil rfl))))) rfl rfl fun fr=>?_
    refine zF (zA rfl (zC rfl)) (zF (wo rfl ze68 pl68 rfl rfl (zC rfl)) ?_)
    refine zF (zGo rfl ty25 rfl rfl (Int.natCast_nonneg _) (by omega) cl68 (zC rfl)) ?_
    refine zF (zDn rfl rfl sh68 rfl rfl rfl (by rw[hlen];omega) rfl (hset ⟨p.la,p.lb,D⟩) (zC rfl)) ?_
    refine zCY ?_
    obtain⟨h1,h2⟩:=esy_set h hp (q:=⟨p.la,p.lb,D⟩) ⟨hpo.1,by rw[hDl];exact hpo.2.1,hDr⟩ (Int.le_refl _) hDe
    exact⟨rfl,⟨⟨_,_,_,_,h1,h2,fn _,fle _,fin _,zDK _,rfl⟩,.cons rfl (.cons rfl (.cons rfl (.nil rfl)))⟩⟩
   ·refine kQ ?_
    refine wd rfl rfl rfl (zB rfl (zC ?_))
    refine zGF rfl (fun h107=>?_) (fun h107=>?_)
    ·refine kQ ?_
     refine zD rfl rfl yY (zG rfl rfl rfl sh25 rfl (zA rfl (zAD (u:=(p).u) rfl ty25 rfl rfl (Int.natCast_nonneg _) (by simp[hp]) cl68 ?_)))
     refine zFN rfl rfl zCq ?_
     refine wj rfl rfl sh24 rfl ?_
     refine zt rfl ze24 ?_
     refine zh rfl rfl sh24 rfl rfl rfl rfl rfl ?_
     refine zC ?_
     refine zO [(1,.lst .ro 1 (zE bits)),(3,U.box 0 0),(7,U.box 2 0),(8,.int .i64 ↑i),(9,.int .i64 y),(12,U.box 4 0)] ([SB.box [.int .i64 (Bk.parts b),.int .i64 (Bk.size b),.lst .ro 1 (zE (Bk.beats b)),.int .i64 (Bk.start b),.int .i64 (Bk.fin b),.int .i64 (Bk.tlo b),.int .i64 (Bk.thi b),.int .i64 (Bk.slo b),.int .i64 (Bk.shi b),.int .i64 (Bk.notice b),.lst .ro 3 (plsU (Bk.players b))],SB.box [.int .i64 n0,.int .i64 n1,.int .i64 n2,.int .i64 n3],SB.box [.int .i64 (Bk.parts b),.int .i64 (Bk.size b),.lst .ro 1 (zE (Bk.beats b)),.int .i64 (Bk.start b),.int .i64 (Bk.fin b),.int .i64 (Bk.tlo b),.int .i64 (Bk.thi b),.int .i64 (Bk.slo b),.int .i64 (Bk.shi b),.int .i64 (Bk.notice b),U.sl 3 0 (List.length (Bk.players b)) 3],SB.box (plF (Bk.players b)),SB.box [.int .i64 (Pl.la p),.int .i64 (Pl.lb p)]]) (.c4 rfl rfl rfl rfl (.cons rfl (.cons rfl (.nil rfl)))) rfl fun fr=>?_
     refine zAc [.plain,.read true,.plain,.plain,.read true,.plain,.plain,.read true,.plain,.read true,.plain,.plain,.read true,.read false,.plain,.read true,.plain,.plain,.plain,.read true,.plain,.plain,.plain] (by kernel_rfl) (by kernel_rfl) (by kernel_rfl) ?_
     refine zF (zD rfl rfl yY (zC rfl)) ?_
     refine yA rfl (zG rfl rfl rfl sh25 rfl (zC rfl)) (zF (zA rfl (zC rfl)) (zF (zD rfl rfl yj (zC rfl)) ?_))
     refine yA rfl (zG rfl rfl rfl sh3 rfl (zC rfl)) (zF (zA rfl (zC rfl)) ?_)
     refine zF (zBX rfl rfl rfl (by unfold I64;omega) (zC rfl)) ?_
     refine yA rfl (o_max rfl rfl rfl (zC rfl)) ?_
     refine zF (zD rfl rfl wQ (zC rfl)) ?_
     refine zAi [(1,.lst .ro 1 (zE bits)),(3,U.box 0 0),(7,U.box 2 0),(8,.int .i64 ↑i),(9,.int .i64 y),(116,U.sl 3 0 (List.length (Bk.players b)) 3),(117,.int .i64 ↑i),(122,.int .i64 (Max.max (0:Int) (Pl.la p - y))),(123,U.box 4 1)] [] ([SB.box [.int .i64 (Bk.parts b),.int .i64 (Bk.size b),.lst .ro 1 (zE (Bk.beats b)),.int .i64 (Bk.start b),.int .i64 (Bk.fin b),.int .i64 (Bk.tlo b),.int .i64 (Bk.thi b),.int .i64 (Bk.slo b),.int .i64 (Bk.shi b),.int .i64 (Bk.notice b),.lst .ro 3 (plsU (Bk.players b))],SB.box [.int .i64 n0,.int .i64 n1,.int .i64 n2,.int .i64 n3],SB.box [.int .i64 (Bk.parts b),.int .i64 (Bk.size b),.lst .ro 1 (zE (Bk.beats b)),.int .i64 (Bk.start b),.int .i64 (Bk.fin b),.int .i64 (Bk.tlo b),.int .i64 (Bk.thi b),.int .i64 (Bk.slo b),.int .i64 (Bk.shi b),.int .i64 (Bk.notice b),U.sl 3 0 (List.length (Bk.players b)) 3],SB.box (plF (Bk.players b)),SB.box [.int .i64 (Pl.la p),.int .i64 (Pl.lb p)]]) (.c4 rfl rfl rfl rfl (.c4 rfl rfl rfl rfl (.cons rfl (.nil rfl)))) rfl rfl fun fr=>?_
     refine yA rfl (zG rfl rfl rfl sh3 rfl (zC rfl)) (zF (zA rfl (zC rfl)) ?_)
     refine zF (zBX rfl rfl rfl (by unfold I64;omega) (zC rfl)) ?_
     refine yA rfl (o_max rfl rfl rfl (zC rfl)) ?_
     refine zCG rfl (ret48 hi _ _) (zCr _ _) (.lrefl _) ?_
     refine zF (zD rfl rfl yY (zC rfl)) ?_
     refine yA rfl (zG rfl rfl rfl sh25 rfl (zC rfl)) (zF (zA rfl (zC rfl)) (zF (zAD (u:=(p).u) rfl ty25 rfl rfl (Int.natCast_nonneg _) (by simp[hp]) cl68 (zC rfl)) ?_))
     refine zAi [(1,.lst .ro 1 (zE bits)),(3,U.box 0 0),(7,U.box 2 0),(116,U.sl 3 0 (List.length (Bk.players b)) 3),(117,.int .i64 ↑i),(128,wU (Max.max (0:Int) (Pl.la p - y)) (Max.max (0:Int) (Pl.lb p - y))),(132,U.eref [.int .i64 (Pl.la p),.int .i64 (Pl.lb p),.lst .ro 2 (yH (Pl.cat p))] 0)] [] ([SB.box [.int .i64 (Bk.parts b),.int .i64 (Bk.size b),.lst .ro 1 (zE (Bk.beats b)),.int .i64 (Bk.start b),.int .i64 (Bk.fin b),.int .i64 (Bk.tlo b),.int .i64 (Bk.thi b),.int .i64 (Bk.slo b),.int .i64 (Bk.shi b),.int .i64 (Bk.notice b),.lst .ro 3 (plsU (Bk.players b))],SB.box [.int .i64 n0,.int .i64 n1,.int .i64 n2,.int .i64 n3],SB.box [.int .i64 (Bk.parts b),.int .i64 (Bk.size b),.lst .ro 1 (zE (Bk.beats b)),.int .i64 (Bk.start b),.int .i64 (Bk.fin b),.int .i64 (Bk.tlo b),.int .i64 (Bk.thi b),.int .i64 (Bk.slo b),.int .i64 (Bk.shi b),.int .i64 (Bk.notice b),U.sl 3 0 (List.length (Bk.players b)) 3],SB.box (plF (Bk.players b)),SB.box [.int .i64 (Pl.la p),.int .i64 (Pl.lb p)]]) (.c4 rfl rfl rfl rfl (.cons rfl (.cons rfl (.cons rfl (.nil rfl))))) rfl rfl fun fr=>?_
     refine zF (zFN rfl rfl zBb (zC rfl)) ?_
     refine yA rfl (yl rfl rfl sh66 rfl (zC rfl)) ?_
     refine zF (wo rfl ze68 pl68 rfl rfl (zC rfl)) ?_
     refine zF (zGo rfl ty25 rfl rfl (Int.natCast_nonneg _) (by omega) cl68 (zC rfl)) ?_
     refine zF (zDn rfl rfl sh68 rfl rfl rfl (by rw[hlen];omega) rfl (hset ⟨_,_,_⟩) (zC rfl)) ?_
     refine zCY ?_
     obtain⟨h1,h2⟩:=esy_set h hp (q:=⟨max 0 (p.la - y),max 0 (p.lb - y),p.cat⟩) ⟨by show 0≤max 0 (p.la - y)∧max 0 (p.la - y)≤max 0 (p.lb - y)∧max 0 (p.lb - y)≤500;omega,hpo.2⟩ (by show max 0 (p.lb - y)≤p.lb;omega) (fun k c d h1 h2=>by rw[h1]at h2;cases h2;exact Int.le_refl _)
     exact⟨rfl,⟨⟨_,_,_,_,h1,h2,fn _,fle _,fin _,zDK _,rfl⟩,.cons rfl (.cons rfl (.cons rfl (.nil rfl)))⟩⟩
    ·refine kQ ?_
     refine wd rfl rfl rfl (zB rfl (zC ?_))
     refine zGF rfl (fun h137=>?_) (fun h137=>?_)
     ·refine k_region ?_
      refine zD rfl rfl zEY (zD rfl rfl yj (zG rfl rfl rfl sh3 rfl (zA rfl ?_)))
      refine zBX rfl rfl rfl (by unfold I64;omega) (o_max rfl rfl rfl ?_)
      refine zD rfl rfl zEY (zD rfl rfl wQ (zG rfl rfl rfl sh3 rfl ?_))
      refine zR [(1,.lst .ro 1 (zE bits)),(3,U.box 0 0),(7,U.box 2 0),(9,.int .i64 y),(144,.int .i64 (Max.max (0:Int) (Bk.slo b - y))),(147,.int .i64 (Bk.shi b))] [] ([SB.box [.int .i64 (Bk.parts b),.int .i64 (Bk.size b),.lst .ro 1 (zE (Bk.beats b)),.int .i64 (Bk.start b),.int .i64 (Bk.fin b),.int .i64 (Bk.tlo b),.int .i64 (Bk.thi b),.int .i64 (Bk.slo b),.int .i64 (Bk.shi b),.int .i64 (Bk.notice b),.lst .ro 3 (plsU (Bk.players b))],SB.box [.int .i64 n0,.int .i64 n1,.int .i64 n2,.int .i64 n3],SB.box [.int .i64 (Bk.parts b),.int .i64 (Bk.size b),.lst .ro 1 (zE (Bk.beats b)),.int .i64 (Bk.start b),.int .i64 (Bk.fin b),.int .i64 (Bk.tlo b),.int .i64 (Bk.thi b),.int .i64 (Bk.slo b),.int .i64 (Bk.shi b),.int .i64 (Bk.notice b),U.sl 3 0 (List.length (Bk.players b)) 3],SB.box (plF (Bk.players b))]) (.c4 rfl rfl rfl rfl (.cons rfl (.cons rfl (.nil rfl)))) rfl rfl fun fr=>?_
      refine zA rfl ?_
      refine zBX rfl rfl rfl (by unfold I64;omega) (o_max rfl rfl rfl ?_)
      refine zP rfl (ret48 hi _ _) (.lrefl _) ?_
      refine zD rfl rfl zEY (zh rfl rfl sh24 rfl rfl rfl rfl rfl ?_)
      refine zC ?_
      obtain⟨h1,h2⟩:=esy_slipB h (u:=max 0 (b.slo - y)) (v:=max 0 (b.shi - y)) (by omega)
      exact⟨rfl,⟨⟨_,plF b.players,_,_,h1,h2,rfl,Nat.le_of_eq hlen.symm,hpl2,zDK _,rfl⟩,.cons rfl (.cons rfl (.cons rfl (.nil rfl)))⟩⟩
     ·refine kQ ?_
      refine wd rfl rfl rfl (zB rfl (zC ?_))
      refine zGF rfl (fun h153=>?_) (fun h153=>?_)
      ·refine kQ ?_
       refine zD rfl rfl yY (zG rfl rfl rfl sh25 rfl (o_lenSl rfl ty25 rfl ?_))
       refine o_gtr rfl rfl rfl (zC ?_)
       refine zGF rfl (fun h158=>?_) (fun h158=>?_)
       ·refine k_region ?_
        refine zD rfl rfl yY (zG rfl rfl rfl sh25 rfl (zD rfl rfl yY (zG rfl rfl rfl sh25 rfl (o_lenSl rfl ty25 rfl ?_))))
        refine zBX rfl rfl rfl (by unfold I64;omega) ?_
        refine o_sliceSl rfl ty25 cl68 rfl (congrArg (U.int .i64) (by omega:((b.players.length:Int) - 1)=((b.players.length - 1:Nat):Int))) (by have:=of_decide_eq_true h158;omega) (by omega) ?_
        refine zD rfl rfl yY (zAU rfl rfl sh25 rfl rfl (zC ?_))
        have h1w:=of_decide_eq_true h158
        obtain⟨h1,h2⟩:=esy_take h (n:=b.players.length - 1) (by omega)
        exact⟨rfl,⟨⟨_,plF b.players,_,b.players.length - 1,h1,h2,by show(b.players.take _).length=_;rw[List.length_take];omega,by rw[hlen];omega,plF_take _ _,zDK _,rfl⟩,.cons rfl (.cons rfl (.cons rfl (.nil rfl)))⟩⟩
       ·refine zW ?_
        exact⟨rfl,⟨⟨b,plF b.players,_,_,h,⟨rfl,rfl,rfl,rfl,rfl,⟨Int.le_refl _,Int.le_refl _⟩,Int.le_refl _,zFV⟩,rfl,Nat.le_of_eq hlen.symm,hpl2,zDK _,rfl⟩,.cons rfl (.cons rfl (.cons rfl (.nil rfl)))⟩⟩
      ·refine k_region ?_
       refine zD rfl rfl zEZ (zD rfl rfl yj (zG rfl rfl rfl sh3 rfl (zA rfl ?_)))
       refine o_mul rfl rfl rfl (by unfold I64;omega) ?_
       refine zBX rfl rfl rfl (by unfold I64;omega) (o_max rfl rfl rfl ?_)
       refine zD rfl rfl zEZ (zD rfl rfl wQ ?_)
       refine zR [(1,.lst .ro 1 (zE bits)),(3,U.box 0 0),(7,U.box 2 0),(9,.int .i64 y),(55,.int .i64 (Max.max (0:Int) (Bk.tlo b - (10:Int)*y))),(57,U.box 0 6)] [] ([SB.box [.int .i64 (Bk.parts b),.int .i64 (Bk.size b),.lst .ro 1 (zE (Bk.beats b)),.int .i64 (Bk.start b),.int .i64 (Bk.fin b),.int .i64 (Bk.tlo b),.int .i64 (Bk.thi b),.int .i64 (Bk.slo b),.int .i64 (Bk.shi b),.int .i64 (Bk.notice b),.lst .ro 3 (plsU (Bk.players b))],SB.box [.int .i64 n0,.int .i64 n1,.int .i64 n2,.int .i64 n3],SB.box [.int .i64 (Bk.parts b),.int .i64 (Bk.size b),.lst .ro 1 (zE (Bk.beats b)),.int .i64 (Bk.start b),.int .i64 (Bk.fin b),.int .i64 (Bk.tlo b),.int .i64 (Bk.thi b),.int .i64 (Bk.slo b),.int .i64 (Bk.shi b),.int .i64 (Bk.notice b),U.sl 3 0 (List.length (Bk.players b)) 3],SB.box (plF (Bk.players b))]) (.c4 rfl rfl rfl rfl (.cons rfl (.cons rfl (.nil rfl)))) rfl rfl fun fr=>?_
       refine zG rfl rfl rfl sh3 rfl (zA rfl ?_)
       refine o_mul rfl rfl rfl (by unfold I64;omega) ?_
       refine wJ rfl rfl rfl (by unfold I64;omega) (o_min rfl rfl rfl ?_)
       refine zP rfl (ret48 hi _ _) (.lrefl _) ?_
       refine zD rfl rfl zEZ (zh rfl rfl sh24 rfl rfl rfl rfl rfl ?_)
       refine zC ?_
       obtain⟨h1,h2⟩:=esy_time h (u:=max 0 (b.tlo - 10*y)) (v:=min 128000 (b.thi+10*y)) (by omega)
       exact⟨rfl,⟨⟨_,plF b.players,_,_,h1,h2,rfl,Nat.le_of_eq hlen.symm,hpl2,zDK _,rfl⟩,.cons rfl (.cons rfl (.cons rfl (.nil rfl)))⟩⟩
  obtain⟨⟨x,C,e,m,hx,he,hxl,hCl,hC,hCd,hst⟩,hs⟩:=hM
  have hL:=chol_ok h bits
  have q43:=ret43 (orc:=orc) hi h bits
  generalize choL b bits b.parts.toNat=L at hL q43
  have hLx:=(esy_pok he).2 hL
  have q25:=ret25 (orc:=orc) hi h hL
  have q25x:=ret25 (orc:=orc) hi hx hLx
  have hplan:=esy_plan h hx he hL.rg
  have q29:=ret29 (orc:=orc) hi h
  have q29x:=ret29 (orc:=orc) hi hx
  have hmany:=esy_many h hx he
  have hp0:b.players[0]? =some (b.players[0]'(by omega)):=List.getElem?_eq_getElem (by omega)
  generalize b.players[0]'(by omega)=p0 at hp0
  have hxn:=hx.pn
  have hx0:x.players[0]? =some (x.players[0]'(by omega)):=List.getElem?_eq_getElem (by omega)
  generalize x.players[0]'(by omega)=x0 at hx0
  obtain⟨mb,hmb⟩:=least_ex (noP b 0) 501 (fun x y a c d=>noP_mono h hp0 x y a c d)
  obtain⟨mx,hmx⟩:=least_ex (noP x 0) 501 (fun u y a c d=>noP_mono hx hx0 u y a c d)
  have hmm:=esy_bound h hx he hp0 hx0 hmb hmx
  have q31:=ret31 (orc:=orc) hi h hp0 hmb
  have q31x:=ret31 (orc:=orc) hi hx hx0 hmx
  generalize (zBz b).length=nb at*
  generalize (zBz x).length=nx at*
  generalize zEM b L=zb at*
  generalize zEM x L=zx at*
  have hfs:yF (plsU x.players)=((C.map dg).drop 0).take (m*3):=by rw[hCd,List.drop_zero,hC,zDl]
  have hez:∀e∈plsU x.players,(zw e).length=3:=fun e he=>by
   obtain⟨q,_,rfl⟩:=List.mem_map.1 he;rfl
  have hel:(plsU x.players).length=m:=by rw[List.length_map,hxl]
  have hle:0+m*3≤(C.map dg).length:=by rw[hCd];omega
  obtain⟨fr0,al0,st0⟩:=st
  have hst:st0=_:=hst
  subst hst
  rw[hs.eq]
  refine k_frz (a:=3) rfl ?_
  refine kQ (zN rfl rfl rfl sh27 rfl (zA rfl (zP rfl (q43) (.lrefl _) (zB rfl (zC (kQ (zN rfl rfl rfl sh27 rfl (zA rfl ?_))))))))
  refine zP rfl (q25) (.lrefl _) (zA rfl (za rfl rfl rfl (za rfl rfl rfl (zB rfl (zB rfl (zC ?_))))))
  refine zO [(3,U.box 0 0),(7,U.box 2 0),(13,.lst .ro 1 (zE L)),(14,U.bool zb),(15,.int .i64 0)] (SB.box [.int .i64 (Bk.parts b),.int .i64 (Bk.size b),.lst .ro 1 (zE (Bk.beats b)),.int .i64 (Bk.start b),.int .i64 (Bk.fin b),.int .i64 (Bk.tlo b),.int .i64 (Bk.thi b),.int .i64 (Bk.slo b),.int .i64 (Bk.shi b),.int .i64 (Bk.notice b),.lst .ro 3 (plsU (Bk.players b))]::SB.box (n4C n0 n1 n2 n3)::SB.box (bC x (U.sl 3 0 m 3))::SB.froz (List.map dg C)::List.append [] e) (.c4 rfl rfl rfl rfl (.cons rfl (.nil rfl))) rfl fun fr=>?_
  refine kQ (zN rfl rfl rfl sh27 rfl ?_)
  refine o_see 177 rfl (fun _=>rfl) (.agg _ _ (.lcons _ _ _ _ (.refl _) (.lcons _ _ _ _ (.refl _) (.lcons _ _ _ _ (.refl _) (.lcons _ _ _ _ (.refl _) (.lcons _ _ _ _ (.refl _) (.lcons _ _ _ _ (.refl _) (.lcons _ _ _ _ (.refl _) (.lcons _ _ _ _ (.refl _) (.lcons _ _ _ _ (.refl _) (.lcons _ _ _ _ (.refl _) (.lcons _ _ _ _ (.sl _ _ _ _ _ _ rfl hfs hez hel hle) (.lrefl _))))))))))))) ?_
  refine zA rfl (zP rfl (q25x) (.lrefl _) (zA rfl (za rfl rfl rfl (za rfl rfl rfl (zB rfl (zB rfl (zC (kQ ?_))))))))
  refine zN rfl rfl rfl sh27 rfl (zP rfl (q29) (.lrefl _) (zA rfl (za rfl rfl rfl (za rfl rfl rfl (zB rfl (zB rfl (zC ?_)))))))
  refine zO [(3,U.box 0 0),(7,U.box 2 0),(14,U.bool zb),(15,.int .i64 0),(16,U.bool zx),(17,.int .i64 0),(18,.int .i64 ↑nb),(19,.int .i64 0)] (SB.box [.int .i64 (Bk.parts b),.int .i64 (Bk.size b),.lst .ro 1 (zE (Bk.beats b)),.int .i64 (Bk.start b),.int .i64 (Bk.fin b),.int .i64 (Bk.tlo b),.int .i64 (Bk.thi b),.int .i64 (Bk.slo b),.int .i64 (Bk.shi b),.int .i64 (Bk.notice b),.lst .ro 3 (plsU (Bk.players b))]::SB.box (n4C n0 n1 n2 n3)::SB.box (bC x (U.sl 3 0 m 3))::SB.froz (List.map dg C)::List.append [] e) (.c4 rfl rfl rfl rfl (.c4 rfl rfl rfl rfl (.nil rfl))) rfl fun fr=>?_
  refine kQ (zN rfl rfl rfl sh27 rfl ?_)
  refine o_see 188 rfl (fun _=>rfl) (.agg _ _ (.lcons _ _ _ _ (.refl _) (.lcons _ _ _ _ (.refl _) (.lcons _ _ _ _ (.refl _) (.lcons _ _ _ _ (.refl _) (.lcons _ _ _ _ (.refl _) (.lcons _ _ _ _ (.refl _) (.lcons _ _ _ _ (.refl _) (.lcons _ _ _ _ (.refl _) (.lcons _ _ _ _ (.refl _) (.lcons _ _ _ _ (.refl _) (.lcons _ _ _ _ (.sl _ _ _ _ _ _ rfl hfs hez hel hle) (.lrefl _))))))))))))) ?_
  refine zP rfl (q29x) (.lrefl _) (zA rfl (za rfl rfl rfl (za rfl rfl rfl (zB rfl (zB rfl (zC ?_))))))
  refine k_cut (fun st=>st.st=[.box [.int .i64 b.parts,.int .i64 b.size,.lst .ro 1 (zE b.beats),.int .i64 b.start,.int .i64 b.fin,.int .i64 b.tlo,.int .i64 b.thi,.int .i64 b.slo,.int .i64 b.shi,.int .i64 b.notice,.lst .ro 3 (plsU b.players)],.box (n4C n0 n1 n2 n3),.box (bC x (.sl 3 0 m 3)),.froz (C.map dg)]++e∧Holds st [(3,.box 0 0),(7,.box 2 0)]) ?_ (fun st hM=>?_)
  ·cases zb with
   |false=>
    refine kQ (zA rfl (zBH rfl rfl rfl (zA rfl (o_gD rfl rfl rfl rfl rfl (zA rfl (o_gD rfl rfl rfl rfl rfl (zBH rfl rfl rfl (zM rfl rfl rfl ?_))))))))
    refine zA rfl (o_gD rfl rfl rfl rfl rfl (zA rfl (o_gD rfl rfl rfl rfl rfl (zBH rfl rfl rfl ?_))))
    refine zR [(3,U.box 0 0),(7,U.box 2 0),(14,.bool false),(16,U.bool zx),(18,.int .i64 ↑nb),(20,.int .i64 ↑nx),(21,.int .i64 0),(198,U.bool (decide ((0:Int)≠(0:Int)))),(200,U.bool (decide ((0:Int)≠(0:Int))))] [] (SB.box [.int .i64 (Bk.parts b),.int .i64 (Bk.size b),.lst .ro 1 (zE (Bk.beats b)),.int .i64 (Bk.start b),.int .i64 (Bk.fin b),.int .i64 (Bk.tlo b),.int .i64 (Bk.thi b),.int .i64 (Bk.slo b),.int .i64 (Bk.shi b),.int .i64 (Bk.notice b),.lst .ro 3 (plsU (Bk.players b))]::SB.box (n4C n0 n1 n2 n3)::SB.box (bC x (U.sl 3 0 m 3))::SB.froz (List.map dg C)::List.append [] e) (.c4 rfl rfl rfl rfl (.c4 rfl rfl rfl rfl (.cons rfl (.nil rfl)))) rfl rfl fun fr=>?_
    refine zM rfl rfl rfl ?_
    refine zA rfl (o_gD rfl rfl rfl rfl rfl (zA rfl (o_gD rfl rfl rfl rfl rfl (zBH rfl rfl rfl (zM rfl rfl rfl ?_)))))
    refine zA rfl (o_gD rfl rfl rfl rfl rfl (zA rfl (o_gD rfl rfl rfl rfl rfl (zA rfl (o_gS rfl rfl rfl rfl rfl ?_)))))
    refine zR [(3,U.box 0 0),(7,U.box 2 0),(18,.int .i64 ↑nb),(20,.int .i64 ↑nx),(206,U.bool (decide ((0:Int)≠(0:Int)))),(208,.bool false),(209,U.tup [])] [] (SB.box [.int .i64 (Bk.parts b),.int .i64 (Bk.size b),.lst .ro 1 (zE (Bk.beats b)),.int .i64 (Bk.start b),.int .i64 (Bk.fin b),.int .i64 (Bk.tlo b),.int .i64 (Bk.thi b),.int .i64 (Bk.slo b),.int .i64 (Bk.shi b),.int .i64 (Bk.notice b),.lst .ro 3 (plsU (Bk.players b))]::SB.box (n4C n0 n1 n2 n3)::SB.box (bC x (U.sl 3 0 m 3))::SB.froz (List.map dg C)::List.append [] e) (.c4 rfl rfl rfl rfl (.cons rfl (.cons rfl (.cons rfl (.nil rfl))))) rfl rfl fun fr=>?_
    refine o_gS rfl rfl rfl rfl rfl (o_gD rfl rfl rfl rfl rfl (zM rfl rfl rfl ?_))
    refine zM rfl rfl rfl ?_
    refine zA rfl (o_gD rfl rfl rfl rfl rfl (zA rfl (o_gD rfl rfl rfl rfl rfl (zA rfl (o_gD rfl rfl rfl rfl rfl (yK rfl rfl rfl (zM rfl rfl rfl ?_)))))))
    refine zC (k_cF rfl (decide_eq_false (by omega)) (zW ?_))
    exact⟨rfl,rfl,.cons rfl (.cons rfl (.nil rfl))⟩
   |true=>
    have hz:=hplan rfl
    subst hz
    refine kQ (zA rfl (zBH rfl rfl rfl (zA rfl (o_gD rfl rfl rfl rfl rfl (zA rfl (o_gD rfl rfl rfl rfl rfl (zBH rfl rfl rfl (zM rfl rfl rfl ?_))))))))
    refine zA rfl (o_gD rfl rfl rfl rfl rfl (zA rfl (o_gD rfl rfl rfl rfl rfl (zBH rfl rfl rfl ?_))))
    refine zR [(3,U.box 0 0),(7,U.box 2 0),(14,.bool true),(16,.bool true),(18,.int .i64 ↑nb),(20,.int .i64 ↑nx),(21,.int .i64 0),(198,U.bool (decide ((0:Int)≠(0:Int)))),(200,U.bool (decide ((0:Int)≠(0:Int))))] [] (SB.box [.int .i64 (Bk.parts b),.int .i64 (Bk.size b),.lst .ro 1 (zE (Bk.beats b)),.int .i64 (Bk.start b),.int .i64 (Bk.fin b),.int .i64 (Bk.tlo b),.int .i64 (Bk.thi b),.int .i64 (Bk.slo b),.int .i64 (Bk.shi b),.int .i64 (Bk.notice b),.lst .ro 3 (plsU (Bk.players b))]::SB.box (n4C n0 n1 n2 n3)::SB.box (bC x (U.sl 3 0 m 3))::SB.froz (List.map dg C)::List.append [] e) (.c4 rfl rfl rfl rfl (.c4 rfl rfl rfl rfl (.cons rfl (.nil rfl)))) rfl rfl fun fr=>?_
    refine zM rfl rfl rfl ?_
    refine zA rfl (o_gD rfl rfl rfl rfl rfl (zA rfl (o_gD rfl rfl rfl rfl rfl (zBH rfl rfl rfl (zM rfl rfl rfl ?_)))))
    refine zA rfl (o_gD rfl rfl rfl rfl rfl (zA rfl (o_gD rfl rfl rfl rfl rfl (zA rfl (o_gD rfl rfl rfl rfl rfl (zA rfl ?_))))))
    refine zR [(3,U.box 0 0),(7,U.box 2 0),(18,.int .i64 ↑nb),(20,.int .i64 ↑nx),(206,U.bool (decide ((0:Int)≠(0:Int)))),(208,.bool true),(209,.bool true)] [] (SB.box [.int .i64 (Bk.parts b),.int .i64 (Bk.size b),.lst .ro 1 (zE (Bk.beats b)),.int .i64 (Bk.start b),.int .i64 (Bk.fin b),.int .i64 (Bk.tlo b),.int .i64 (Bk.thi b),.int .i64 (Bk.slo b),.int .i64 (Bk.shi b),.int .i64 (Bk.notice b),.lst .ro 3 (plsU (Bk.players b))]::SB.box (n4C n0 n1 n2 n3)::SB.box (bC x (U.sl 3 0 m 3))::SB.froz (List.map dg C)::List.append [] e) (.c4 rfl rfl rfl rfl (.cons rfl (.cons rfl (.cons rfl (.nil rfl))))) rfl rfl fun fr=>?_
    refine o_gD rfl rfl rfl rfl rfl ?_
    refine zR [(3,U.box 0 0),(7,U.box 2 0),(18,.int .i64 ↑nb),(20,.int .i64 ↑nx),(206,U.bool (decide ((0:Int)≠(0:Int)))),(208,.bool true),(209,.bool true)] [] (SB.box [.int .i64 (Bk.parts b),.int .i64 (Bk.size b),.lst .ro 1 (zE (Bk.beats b)),.int .i64 (Bk.start b),.int .i64 (Bk.fin b),.int .i64 (Bk.tlo b),.int .i64 (Bk.thi b),.int .i64 (Bk.slo b),.int .i64 (Bk.shi b),.int .i64 (Bk.notice b),.lst .ro 3 (plsU (Bk.players b))]::SB.box (n4C n0 n1 n2 n3)::SB.box (bC x (U.sl 3 0 m 3))::SB.froz (List.map dg C)::List.append [] e) (.c4 rfl rfl rfl rfl (.cons rfl (.cons rfl (.cons rfl (.nil rfl))))) rfl rfl fun fr=>?_
    refine wn rfl rfl (o_gD rfl rfl rfl rfl rfl (zV rfl rfl rfl ?_))
    refine zM rfl rfl rfl ?_
    refine zA rfl (o_gD rfl rfl rfl rfl rfl (zA rfl (o_gD rfl rfl rfl rfl rfl (zA rfl (o_gD rfl rfl rfl rfl rfl (yK rfl rfl rfl (zM rfl rfl rfl ?_)))))))
    refine zC (k_cF rfl (decide_eq_false (by omega)) (zW ?_))
    exact⟨rfl,rfl,.cons rfl (.cons rfl (.nil rfl))⟩
  obtain⟨hst2,hs2⟩:=hM
  obtain⟨fr1,al1,st1⟩:=st
  have hst2:st1=_:=hst2
  subst hst2
  rw[hs2.eq]
  by_cases m0:mb=0
  ·rw[if_pos m0,if_pos m0]at q31
   by_cases mx0:mx=0
   ·rw[if_pos mx0,if_pos mx0]at q31x
    refine kQ (zN rfl rfl rfl sh27 rfl (zP rfl (q31) (.lrefl _) (zA rfl (za rfl rfl rfl (za rfl rfl rfl (zB rfl (zB rfl (zC ?_))))))))
    refine kQ (zN rfl rfl rfl sh27 rfl ?_)
    refine o_see 224 rfl (fun _=>rfl) (.agg _ _ (.lcons _ _ _ _ (.refl _) (.lcons _ _ _ _ (.refl _) (.lcons _ _ _ _ (.refl _) (.lcons _ _ _ _ (.refl _) (.lcons _ _ _ _ (.refl _) (.lcons _ _ _ _ (.refl _) (.lcons _ _ _ _ (.refl _) (.lcons _ _ _ _ (.refl _) (.lcons _ _ _ _ (.refl _) (.lcons _ _ _ _ (.refl _) (.lcons _ _ _ _ (.sl _ _ _ _ _ _ rfl hfs hez hel hle) (.lrefl _))))))))))))) ?_
    refine zP rfl (q31x) (.lrefl _) (zA rfl (za rfl rfl rfl (za rfl rfl rfl (zB rfl (zB rfl (zC ?_))))))
    refine zO [(15,.int .i64 4),(17,.int .i64 4),(22,.int .i64 0),(23,.int .i64 0)] (SB.box [.int .i64 (Bk.parts b),.int .i64 (Bk.size b),.lst .ro 1 (zE (Bk.beats b)),.int .i64 (Bk.start b),.int .i64 (Bk.fin b),.int .i64 (Bk.tlo b),.int .i64 (Bk.thi b),.int .i64 (Bk.slo b),.int .i64 (Bk.shi b),.int .i64 (Bk.notice b),.lst .ro 3 (plsU (Bk.players b))]::SB.box (n4C n0 n1 n2 n3)::SB.box (bC x (U.sl 3 0 m 3))::SB.froz (List.map dg C)::List.append [] e) (.c4 rfl rfl rfl rfl (.nil rfl)) rfl fun fr=>?_
    refine kQ (zA rfl (wd rfl rfl rfl (zA rfl (o_gS rfl rfl rfl rfl rfl (o_gS rfl rfl rfl rfl rfl (zM rfl rfl rfl ?_))))))
    refine zA rfl (o_gS rfl rfl rfl rfl rfl (o_gS rfl rfl rfl rfl rfl ?_))
    refine zR [(15,.int .i64 4),(17,.int .i64 4),(234,.bool false),(235,U.tup []),(236,U.tup [])] [] (SB.box [.int .i64 (Bk.parts b),.int .i64 (Bk.size b),.lst .ro 1 (zE (Bk.beats b)),.int .i64 (Bk.start b),.int .i64 (Bk.fin b),.int .i64 (Bk.tlo b),.int .i64 (Bk.thi b),.int .i64 (Bk.slo b),.int .i64 (Bk.shi b),.int .i64 (Bk.notice b),.lst .ro 3 (plsU (Bk.players b))]::SB.box (n4C n0 n1 n2 n3)::SB.box (bC x (U.sl 3 0 m 3))::SB.froz (List.map dg C)::List.append [] e) (.c4 rfl rfl rfl rfl (.cons rfl (.nil rfl))) rfl rfl fun fr=>?_
    refine o_gS rfl rfl rfl rfl rfl (zM rfl rfl rfl ?_)
    refine zA rfl (o_gD rfl rfl rfl rfl rfl (zA rfl (o_gD rfl rfl rfl rfl rfl (wd rfl rfl rfl (o_gD rfl rfl rfl rfl rfl (zA rfl (o_gD rfl rfl rfl rfl rfl (zA rfl ?_))))))))
    refine o_gD rfl rfl rfl rfl rfl (wd rfl rfl rfl (o_gD rfl rfl rfl rfl rfl (zA rfl ?_)))
    refine zR [(15,.int .i64 4),(17,.int .i64 4),(239,.bool false),(242,U.bool (decide ((4:Int)=(4:Int)))),(245,U.bool (decide ((4:Int)=(0:Int))))] [] (SB.box [.int .i64 (Bk.parts b),.int .i64 (Bk.size b),.lst .ro 1 (zE (Bk.beats b)),.int .i64 (Bk.start b),.int .i64 (Bk.fin b),.int .i64 (Bk.tlo b),.int .i64 (Bk.thi b),.int .i64 (Bk.slo b),.int .i64 (Bk.shi b),.int .i64 (Bk.notice b),.lst .ro 3 (plsU (Bk.players b))]::SB.box (n4C n0 n1 n2 n3)::SB.box (bC x (U.sl 3 0 m 3))::SB.froz (List.map dg C)::List.append [] e) (.c4 rfl rfl rfl rfl (.cons rfl (.nil rfl))) rfl rfl fun fr=>?_
    refine o_gD rfl rfl rfl rfl rfl ?_
    refine zR [(15,.int .i64 4),(17,.int .i64 4),(239,.bool false),(242,U.bool (decide ((4:Int)=(4:Int)))),(245,U.bool (decide ((4:Int)=(0:Int))))] [] (SB.box [.int .i64 (Bk.parts b),.int .i64 (Bk.size b),.lst .ro 1 (zE (Bk.beats b)),.int .i64 (Bk.start b),.int .i64 (Bk.fin b),.int .i64 (Bk.tlo b),.int .i64 (Bk.thi b),.int .i64 (Bk.slo b),.int .i64 (Bk.shi b),.int .i64 (Bk.notice b),.lst .ro 3 (plsU (Bk.players b))]::SB.box (n4C n0 n1 n2 n3)::SB.box (bC x (U.sl 3 0 m 3))::SB.froz (List.map dg C)::List.append [] e) (.c4 rfl rfl rfl rfl (.cons rfl (.nil rfl))) rfl rfl fun fr=>?_
    refine zA rfl (o_gD rfl rfl rfl rfl rfl (zA rfl (o_gD rfl rfl rfl rfl rfl (wd rfl rfl rfl (o_gD rfl rfl rfl rfl rfl (zM rfl rfl rfl ?_))))))
    refine o_gD rfl rfl rfl rfl rfl (zV rfl rfl rfl ?_)
    refine zM rfl rfl rfl ?_
    refine zA rfl (o_gD rfl rfl rfl rfl rfl (zP rfl (r24) (.lrefl _) (zV rfl rfl rfl ?_)))
    refine zR [(254,.bool true)] [] (SB.box [.int .i64 (Bk.parts b),.int .i64 (Bk.size b),.lst .ro 1 (zE (Bk.beats b)),.int .i64 (Bk.start b),.int .i64 (Bk.fin b),.int .i64 (Bk.tlo b),.int .i64 (Bk.thi b),.int .i64 (Bk.slo b),.int .i64 (Bk.shi b),.int .i64 (Bk.notice b),.lst .ro 3 (plsU (Bk.players b))]::SB.box (n4C n0 n1 n2 n3)::SB.box (bC x (U.sl 3 0 m 3))::SB.froz (List.map dg C)::List.append [] e) (.cons rfl (.nil rfl)) rfl rfl fun fr=>?_
    refine zB rfl (zC (zZ ?_))
    refine⟨.inr rfl,_,.cons _ _ _ _ (.tmp 6) .nil,?_⟩
    exact .refl _
   ·rw[if_neg mx0,if_neg mx0]at q31x
    refine kQ (zN rfl rfl rfl sh27 rfl (zP rfl (q31) (.lrefl _) (zA rfl (za rfl rfl rfl (za rfl rfl rfl (zB rfl (zB rfl (zC ?_))))))))
    refine kQ (zN rfl rfl rfl sh27 rfl ?_)
    refine o_see 224 rfl (fun _=>rfl) (.agg _ _ (.lcons _ _ _ _ (.refl _) (.lcons _ _ _ _ (.refl _) (.lcons _ _ _ _ (.refl _) (.lcons _ _ _ _ (.refl _) (.lcons _ _ _ _ (.refl _) (.lcons _ _ _ _ (.refl _) (.lcons _ _ _ _ (.refl _) (.lcons _ _ _ _ (.refl _) (.lcons _ _ _ _ (.refl _) (.lcons _ _ _ _ (.refl _) (.lcons _ _ _ _ (.sl _ _ _ _ _ _ rfl hfs hez hel hle) (.lrefl _))))))))))))) ?_
    refine zP rfl (q31x) (.lrefl _) (zA rfl (za rfl rfl rfl (za rfl rfl rfl (zB rfl (zB rfl (zC ?_))))))
    refine zO [(15,.int .i64 4),(17,.int .i64 0),(22,.int .i64 0),(23,.int .i64 (↑mx - (1:Int)))] (SB.box [.int .i64 (Bk.parts b),.int .i64 (Bk.size b),.lst .ro 1 (zE (Bk.beats b)),.int .i64 (Bk.start b),.int .i64 (Bk.fin b),.int .i64 (Bk.tlo b),.int .i64 (Bk.thi b),.int .i64 (Bk.slo b),.int .i64 (Bk.shi b),.int .i64 (Bk.notice b),.lst .ro 3 (plsU (Bk.players b))]::SB.box (n4C n0 n1 n2 n3)::SB.box (bC x (U.sl 3 0 m 3))::SB.froz (List.map dg C)::List.append [] e) (.c4 rfl rfl rfl rfl (.nil rfl)) rfl fun fr=>?_
    refine kQ (zA rfl (wd rfl rfl rfl (zA rfl (o_gS rfl rfl rfl rfl rfl (o_gS rfl rfl rfl rfl rfl (zM rfl rfl rfl ?_))))))
    refine zA rfl (o_gS rfl rfl rfl rfl rfl (o_gS rfl rfl rfl rfl rfl ?_))
    refine zR [(15,.int .i64 4),(17,.int .i64 0),(234,.bool false),(235,U.tup []),(236,U.tup [])] [] (SB.box [.int .i64 (Bk.parts b),.int .i64 (Bk.size b),.lst .ro 1 (zE (Bk.beats b)),.int .i64 (Bk.start b),.int .i64 (Bk.fin b),.int .i64 (Bk.tlo b),.int .i64 (Bk.thi b),.int .i64 (Bk.slo b),.int .i64 (Bk.shi b),.int .i64 (Bk.notice b),.lst .ro 3 (plsU (Bk.players b))]::SB.box (n4C n0 n1 n2 n3)::SB.box (bC x (U.sl 3 0 m 3))::SB.froz (List.map dg C)::List.append [] e) (.c4 rfl rfl rfl rfl (.cons rfl (.nil rfl))) rfl rfl fun fr=>?_
    refine o_gS rfl rfl rfl rfl rfl (zM rfl rfl rfl ?_)
    refine zA rfl (o_gD rfl rfl rfl rfl rfl (zA rfl (o_gD rfl rfl rfl rfl rfl (wd rfl rfl rfl (o_gD rfl rfl rfl rfl rfl (zA rfl (o_gD rfl rfl rfl rfl rfl (zA rfl ?_))))))))
    refine o_gD rfl rfl rfl rfl rfl (wd rfl rfl rfl (o_gD rfl rfl rfl rfl rfl (zA rfl ?_)))
    refine zR [(15,.int .i64 4),(17,.int .i64 0),(239,.bool false),(242,U.bool (decide ((4:Int)=(4:Int)))),(245,U.bool (decide ((0:Int)=(0:Int))))] [] (SB.box [.int .i64 (Bk.parts b),.int .i64 (Bk.size b),.lst .ro 1 (zE (Bk.beats b)),.int .i64 (Bk.start b),.int .i64 (Bk.fin b),.int .i64 (Bk.tlo b),.int .i64 (Bk.thi b),.int .i64 (Bk.slo b),.int .i64 (Bk.shi b),.int .i64 (Bk.notice b),.lst .ro 3 (plsU (Bk.players b))]::SB.box (n4C n0 n1 n2 n3)::SB.box (bC x (U.sl 3 0 m 3))::SB.froz (List.map dg C)::List.append [] e) (.c4 rfl rfl rfl rfl (.cons rfl (.nil rfl))) rfl rfl fun fr=>?_
    refine o_gS rfl rfl rfl rfl rfl (o_gS rfl rfl rfl rfl rfl (o_gS rfl rfl rfl rfl rfl (o_gD rfl rfl rfl rfl rfl (zV rfl rfl rfl ?_))))
    refine o_gD rfl rfl rfl rfl rfl (zV rfl rfl rfl ?_)
    refine zM rfl rfl rfl ?_
    refine zA rfl (o_gD rfl rfl rfl rfl rfl (zP rfl (r24) (.lrefl _) (zV rfl rfl rfl ?_)))
    refine zR [(254,.bool true)] [] (SB.box [.int .i64 (Bk.parts b),.int .i64 (Bk.size b),.lst .ro 1 (zE (Bk.beats b)),.int .i64 (Bk.start b),.int .i64 (Bk.fin b),.int .i64 (Bk.tlo b),.int .i64 (Bk.thi b),.int .i64 (Bk.slo b),.int .i64 (Bk.shi b),.int .i64 (Bk.notice b),.lst .ro 3 (plsU (Bk.players b))]::SB.box (n4C n0 n1 n2 n3)::SB.box (bC x (U.sl 3 0 m 3))::SB.froz (List.map dg C)::List.append [] e) (.cons rfl (.nil rfl)) rfl rfl fun fr=>?_
    refine zB rfl (zC (zZ ?_))
    refine⟨.inr rfl,_,.cons _ _ _ _ (.tmp 6) .nil,?_⟩
    exact .refl _
  ·rw[if_neg m0,if_neg m0]at q31
   have mx0:mx≠0:=by omega
   rw[if_neg mx0,if_neg mx0]at q31x
   refine kQ (zN rfl rfl rfl sh27 rfl (zP rfl (q31) (.lrefl _) (zA rfl (za rfl rfl rfl (za rfl rfl rfl (zB rfl (zB rfl (zC ?_))))))))
   refine kQ (zN rfl rfl rfl sh27 rfl ?_)
   refine o_see 224 rfl (fun _=>rfl) (.agg _ _ (.lcons _ _ _ _ (.refl _) (.lcons _ _ _ _ (.refl _) (.lcons _ _ _ _ (.refl _) (.lcons _ _ _ _ (.refl _) (.lcons _ _ _ _ (.refl _) (.lcons _ _ _ _ (.refl _) (.lcons _ _ _ _ (.refl _) (.lcons _ _ _ _ (.refl _) (.lcons _ _ _ _ (.refl _) (.lcons _ _ _ _ (.refl _) (.lcons _ _ _ _ (.sl _ _ _ _ _ _ rfl hfs hez hel hle) (.lrefl _))))))))))))) ?_
   refine zP rfl (q31x) (.lrefl _) (zA rfl (za rfl rfl rfl (za rfl rfl rfl (zB rfl (zB rfl (zC ?_))))))
   refine zO [(15,.int .i64 0),(17,.int .i64 0),(22,.int .i64 (↑mb - (1:Int))),(23,.int .i64 (↑mx - (1:Int)))] (SB.box [.int .i64 (Bk.parts b),.int .i64 (Bk.size b),.lst .ro 1 (zE (Bk.beats b)),.int .i64 (Bk.start b),.int .i64 (Bk.fin b),.int .i64 (Bk.tlo b),.int .i64 (Bk.thi b),.int .i64 (Bk.slo b),.int .i64 (Bk.shi b),.int .i64 (Bk.notice b),.lst .ro 3 (plsU (Bk.players b))]::SB.box (n4C n0 n1 n2 n3)::SB.box (bC x (U.sl 3 0 m 3))::SB.froz (List.map dg C)::List.append [] e) (.c4 rfl rfl rfl rfl (.nil rfl)) rfl fun fr=>?_
   refine kQ (zA rfl (wd rfl rfl rfl (zA rfl (o_gD rfl rfl rfl rfl rfl (zA rfl (o_gD rfl rfl rfl rfl rfl (wd rfl rfl rfl (zV rfl rfl rfl ?_))))))))
   refine zA rfl (o_gD rfl rfl rfl rfl rfl (zA rfl (o_gD rfl rfl rfl rfl rfl (zA rfl ?_))))
   refine zR [(15,.int .i64 0),(17,.int .i64 0),(234,U.bool (decide ((0:Int)=(0:Int)))),(235,.int .i64 (↑mx - (1:Int))),(236,.int .i64 (↑mb - (1:Int)))] [] (SB.box [.int .i64 (Bk.parts b),.int .i64 (Bk.size b),.lst .ro 1 (zE (Bk.beats b)),.int .i64 (Bk.start b),.int .i64 (Bk.fin b),.int .i64 (Bk.tlo b),.int .i64 (Bk.thi b),.int .i64 (Bk.slo b),.int .i64 (Bk.shi b),.int .i64 (Bk.notice b),.lst .ro 3 (plsU (Bk.players b))]::SB.box (n4C n0 n1 n2 n3)::SB.box (bC x (U.sl 3 0 m 3))::SB.froz (List.map dg C)::List.append [] e) (.c4 rfl rfl rfl rfl (.cons rfl (.nil rfl))) rfl rfl fun fr=>?_
   refine o_gD rfl rfl rfl rfl rfl ?_
   refine zR [(15,.int .i64 0),(17,.int .i64 0),(234,U.bool (decide ((0:Int)=(0:Int)))),(235,.int .i64 (↑mx - (1:Int))),(236,.int .i64 (↑mb - (1:Int)))] [] (SB.box [.int .i64 (Bk.parts b),.int .i64 (Bk.size b),.lst .ro 1 (zE (Bk.beats b)),.int .i64 (Bk.start b),.int .i64 (Bk.fin b),.int .i64 (Bk.tlo b),.int .i64 (Bk.thi b),.int .i64 (Bk.slo b),.int .i64 (Bk.shi b),.int .i64 (Bk.notice b),.lst .ro 3 (plsU (Bk.players b))]::SB.box (n4C n0 n1 n2 n3)::SB.box (bC x (U.sl 3 0 m 3))::SB.froz (List.map dg C)::List.append [] e) (.c4 rfl rfl rfl rfl (.cons rfl (.nil rfl))) rfl rfl fun fr=>?_
   refine o_geq rfl rfl rfl (zV rfl rfl rfl ?_)
   refine zA rfl (o_gS rfl rfl rfl rfl (decide_eq_true (by omega)) (o_gS rfl rfl rfl rfl (decide_eq_true (by omega)) (o_gS rfl rfl rfl rfl (decide_eq_true (by omega)) (zFu rfl rfl rfl rfl ?_))))
   refine zFu rfl rfl rfl rfl ?_
   refine zFu rfl rfl rfl rfl ?_
   refine zR [(15,.int .i64 0),(17,.int .i64 0),(239,U.bool (decide (↑mb - (1:Int)≤ ↑mx - (1:Int)))),(242,U.tup []),(245,U.tup [])] [] (SB.box [.int .i64 (Bk.parts b),.int .i64 (Bk.size b),.lst .ro 1 (zE (Bk.beats b)),.int .i64 (Bk.start b),.int .i64 (Bk.fin b),.int .i64 (Bk.tlo b),.int .i64 (Bk.thi b),.int .i64 (Bk.slo b),.int .i64 (Bk.shi b),.int .i64 (Bk.notice b),.lst .ro 3 (plsU (Bk.players b))]::SB.box (n4C n0 n1 n2 n3)::SB.box (bC x (U.sl 3 0 m 3))::SB.froz (List.map dg C)::List.append [] e) (.c4 rfl rfl rfl rfl (.cons rfl (.nil rfl))) rfl rfl fun fr=>?_
   refine zFu rfl rfl rfl rfl ?_
   refine zFu rfl rfl rfl rfl ?_
   refine zFu rfl rfl rfl rfl ?_
   refine zFu rfl rfl rfl rfl ?_
   refine o_gS rfl rfl rfl rfl (decide_eq_true (by omega)) (zV rfl rfl (decide_eq_true (by omega)) ?_)
   refine zA rfl (o_gD rfl rfl rfl rfl rfl (zP rfl (r24) (.lrefl _) (zV rfl rfl rfl ?_)))
   refine zR [(254,.bool true)] [] (SB.box [.int .i64 (Bk.parts b),.int .i64 (Bk.size b),.lst .ro 1 (zE (Bk.beats b)),.int .i64 (Bk.start b),.int .i64 (Bk.fin b),.int .i64 (Bk.tlo b),.int .i64 (Bk.thi b),.int .i64 (Bk.slo b),.int .i64 (Bk.shi b),.int .i64 (Bk.notice b),.lst .ro 3 (plsU (Bk.players b))]::SB.box (n4C n0 n1 n2 n3)::SB.box (bC x (U.sl 3 0 m 3))::SB.froz (List.map dg C)::List.append [] e) (.cons rfl (.nil rfl)) rfl rfl fun fr=>?_
   refine zB rfl (zC (zZ ?_))
   refine⟨.inr rfl,_,.cons _ _ _ _ (.tmp 6) .nil,?_⟩
   exact .refl _
end
section
variable {is:FuncId→Bool}{orc:Known}
theorem ret12_all(hi:Off is)(r24:RetP Tryd.prog is orc 24 [] (.bool true)):∀us,ShpAs Tryd.prog [27,22,70] us→RetP Tryd.prog is orc 12 us (.bool true):=by
 intro us h
 cases h with
 |cons _ _ u us h1 h=>cases h with
 |cons _ _ v us h2 h=>cases h with
 |cons _ _ x us h3 h=>
 cases h
 obtain⟨fs,hu⟩:=und27
 unfold ShpA at h1 h2 h3
 rw[hu]at h1
 rw[u22]at h2
 rw[u70]at h3
 obtain⟨b,rfl⟩:=arg_bk h1
 obtain⟨l,rfl⟩:=arg_ints h2
 obtain⟨n0,n1,n2,n3,rfl⟩:=arg_four h3
 exact ret12 hi b l n0 n1 n2 n3 r24
end
end Go.Proofs.YtfbmlibilcjlgaaDoor.drumEasier
