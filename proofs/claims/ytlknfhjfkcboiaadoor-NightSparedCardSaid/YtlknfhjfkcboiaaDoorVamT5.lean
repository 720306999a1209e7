import Derived.Test.YtlknfhjfkcboiaaDoorVamT4
set_option linter.unusedVariables false
set_option linter.unusedSimpArgs false
set_option linter.constructorNameAsVariable false
namespace Go.Proofs.YtlknfhjfkcboiaaDoor.night
open Vam
section
variable {is:FuncId→Bool}{orc:Known}
theorem fld137_0:zo Tryd.prog 137 0=some (0,48):=by kernel_rfl
noncomputable def b120:Code:=(Tryd.f120.body).getD .skip
theorem body120:bodyOf Tryd.prog 120=some (6,b120,[.tmp 2]):=by kernel_rfl
theorem pure120:pureFn Tryd.prog 120=true:=by kernel_rfl
noncomputable def b121:Code:=(Tryd.f121.body).getD .skip
theorem body121:bodyOf Tryd.prog 121=some (6,b121,[.tmp 2]):=by kernel_rfl
theorem pure121:pureFn Tryd.prog 121=true:=by kernel_rfl
theorem cl134:Program.cellsOf Tryd.prog 134=1:=by kernel_rfl
theorem pl146:zGH Tryd.prog 146=some [(0,1),(1,1)]:=by kernel_rfl
theorem sh134:shOf Tryd.prog 134=.one:=by kernel_rfl
theorem sh146:shOf Tryd.prog 146=.many 2:=by kernel_rfl
theorem ty146:tyOf Tryd.prog 146=.array 2 134:=by kernel_rfl
theorem ze146:yT Tryd.prog 146=some ((.cons .nilf (.cons .nilf .nil)):V):=by kernel_rfl
noncomputable def b109:Code:=(Tryd.f109.body).getD .skip
theorem body109:bodyOf Tryd.prog 109=some (8,b109,[.tmp 2]):=by kernel_rfl
theorem pure109:pureFn Tryd.prog 109=false:=by kernel_rfl
theorem zAN:zo Tryd.prog 72 0=some (0,70):=by kernel_rfl
theorem zBA:zo Tryd.prog 72 1=some (10,22):=by kernel_rfl
theorem pl137:zGH Tryd.prog 137=some [(0,2)]:=by kernel_rfl
theorem ze137:yT Tryd.prog 137=some ((.cons (.int .i64 0) (.cons (.int .i64 0) .nil)):V):=by kernel_rfl
noncomputable def b97:Code:=(Tryd.f97.body).getD .skip
theorem body97:bodyOf Tryd.prog 97=some (59,b97,[.tmp 8]):=by kernel_rfl
theorem pure97:pureFn Tryd.prog 97=true:=by kernel_rfl
theorem ret120(hi:Off is)(a b:Int):RetP Tryd.prog is orc 120 [spanU a b] (.int .i64 a):=by
 refine yC body120 pure120 (hi 120 (by decide)) rfl rfl (zAe (zDs a b 6)) (.inl (.int _ _ _)) ?_
 refine kQ (yH rfl rfl (zA rfl (zC ?_)))
 refine zK [(1,U.box 0 0)] ([SB.box [.int .i64 a,.int .i64 b]]) (.cons rfl (.nil rfl)) rfl fun fr=>?_
 refine kQ (zD rfl rfl fld137_0 (zD rfl rfl zAC (zE rfl rfl rfl sh3 rfl (zA rfl (zC (zZ ?_))))))
 refine⟨.inr rfl,_,.cons _ _ _ _ (.tmp 2) .nil,?_⟩
 exact .refl _
theorem ret121(hi:Off is)(a b:Int):RetP Tryd.prog is orc 121 [spanU a b] (.int .i64 b):=by
 refine yC body121 pure121 (hi 121 (by decide)) rfl rfl (zAe (zDs a b 6)) (.inl (.int _ _ _)) ?_
 refine kQ (yH rfl rfl (zA rfl (zC ?_)))
 refine zK [(1,U.box 0 0)] ([SB.box [.int .i64 a,.int .i64 b]]) (.cons rfl (.nil rfl)) rfl fun fr=>?_
 refine kQ (zD rfl rfl fld137_0 (zD rfl rfl zBW (zE rfl rfl rfl sh3 rfl (zA rfl (zC (zZ ?_))))))
 refine⟨.inr rfl,_,.cons _ _ _ _ (.tmp 2) .nil,?_⟩
 exact .refl _
theorem at_ps{l m:List SB}{i k:Nat}{x y:SB}(h:l[i]? =some x)(hk:l.length≤k):((l++m).set k y)[i]? =some x:=by
 have hi:=(List.getElem?_eq_some_iff.1 h).1
 rw[List.getElem?_set_ne (by omega),List.getElem?_append_left hi,h]
theorem nb_fn0(f:Nat):NB (.fn f [] []):=NB.fn (fun u hu=>by cases hu) (fun u hu=>by cases hu)
theorem ret109a(hi:Off is):RetP Tryd.prog is orc 109 [.int .i64 0] (.fn 120 [] []):=by
 refine zDg body109 pure109 rfl rfl (fun u hu=>by rcases List.mem_singleton.1 hu with rfl;exact⟨NB.int _ _,NoOwn.of fun z es h=>by cases h⟩) (nb_fn0 _) ?_
 refine kQ (zA rfl (zC (kQ (wY rfl ze146 pl146 rfl rfl ?_))))
 refine zu rfl ze146 ?_
 refine zd rfl rfl sh146 rfl rfl rfl rfl rfl ?_
 refine zC ?_
 refine zK [(0,.int .i64 0),(3,U.box 0 0)] ([SB.box [U.fn 120 [] [],U.fn 121 [] []]]) (.cons rfl (.cons rfl (.nil rfl))) rfl fun fr=>?_
 refine kQ (zB rfl (zCX rfl ty146 rfl rfl (by omega) (by omega) cl134 ?_))
 refine zE rfl rfl rfl sh134 rfl (zA rfl (zC (zZ ?_)))
 refine⟨.inr rfl,_,.cons _ _ _ _ (.tmp 2) .nil,?_⟩
 exact .refl _
theorem ret109b(hi:Off is):RetP Tryd.prog is orc 109 [.int .i64 1] (.fn 121 [] []):=by
 refine zDg body109 pure109 rfl rfl (fun u hu=>by rcases List.mem_singleton.1 hu with rfl;exact⟨NB.int _ _,NoOwn.of fun z es h=>by cases h⟩) (nb_fn0 _) ?_
 refine kQ (zA rfl (zC (kQ (wY rfl ze146 pl146 rfl rfl ?_))))
 refine zu rfl ze146 ?_
 refine zd rfl rfl sh146 rfl rfl rfl rfl rfl ?_
 refine zC ?_
 refine zK [(0,.int .i64 1),(3,U.box 0 0)] ([SB.box [U.fn 120 [] [],U.fn 121 [] []]]) (.cons rfl (.cons rfl (.nil rfl))) rfl fun fr=>?_
 refine kQ (zB rfl (zCX rfl ty146 rfl rfl (by omega) (by omega) cl134 ?_))
 refine zE rfl rfl rfl sh134 rfl (zA rfl (zC (zZ ?_)))
 refine⟨.inr rfl,_,.cons _ _ _ _ (.tmp 2) .nil,?_⟩
 exact .refl _
def endI(e:Bool)(q:Sc):Int:=if e=true then q.hi else q.lo
def endN(e:Bool):Int:=if e=true then 1 else 0
def wayN(e:Bool):Nat:=if e=true then 121 else 120
theorem retWay(hi:Off is)(e:Bool):RetP Tryd.prog is orc 109 [.int .i64 (endN e)] (.fn (wayN e) [] []):=by
 cases e with
 |true=>exact ret109b hi
 |false=>exact ret109a hi
theorem retEnd(hi:Off is)(e:Bool)(q:Sc):RetP Tryd.prog is orc (wayN e) [spanU q.lo q.hi] (.int .i64 (endI e q)):=by
 cases e with
 |true=>exact ret121 hi _ _
 |false=>exact ret120 hi _ _
def tkI(d:List Int)(e:Bool)(i:Nat)(q:Sc):Int:=if i<d.length then(d[i]?).getD 0 else endI e q
def elM(d L:List Int)(p:Int)(e:Bool)(i:Nat)(q:Sc):List Int:=if q.part≠p∨(i:Int)∈L then []else [tkI d e i q]
def mnS(b:Bk)(d L:List Int)(p:Int)(e:Bool):Nat→List Int
 |0=>[]
 |i+1=>mnS b d L p e i++(match b.scenes[i]? with|none=>[]|some q=>elM d L p e i q)
structure DOk(b:Bk)(d:List Int):Prop where
 len:d.length≤b.scenes.length
 rg:∀x∈d, -1≤x∧x≤600
theorem mnS_at{b:Bk}{d L:List Int}{p:Int}{e:Bool}{i:Nat}{q:Sc}(h:b.scenes[i]? =some q):mnS b d L p e (i+1)=mnS b d L p e i++elM d L p e i q:=by
 show _++(match b.scenes[i]? with|none=>[]|some q=>elM d L p e i q)=_
 rw[h]
theorem mnS_b{b:Bk}(h:BOk b){d L:List Int}(hd:DOk b d)(p:Int)(e:Bool)(i:Nat):(mnS b d L p e i).length≤i∧∀x∈mnS b d L p e i, -1≤x∧x≤600:=by
 induction i with
 |zero=>exact⟨Nat.le_refl _,fun x hx=>by cases hx⟩
 |succ i ih=>
  unfold mnS
  cases hq:b.scenes[i]? with
  |none=>simp only[List.append_nil];exact⟨by omega,ih.2⟩
  |some q=>
   have hs:=h.sc i q hq
   simp only
   unfold elM
   split
   ·simp only[List.append_nil];exact⟨by omega,ih.2⟩
   ·refine⟨by simp;omega,fun x hx=>?_⟩
    rcases List.mem_append.1 hx with hx|hx
    ·exact ih.2 x hx
    ·rcases List.mem_singleton.1 hx with rfl
     unfold tkI
     split
     ·rename_i hid
      rw[List.getElem?_eq_getElem hid]
      exact hd.rg _ (List.getElem_mem _)
     ·unfold endI;split<;>omega
set_option maxHeartbeats 8000000 in
theorem ret97(hi:Off is){b:Bk}(h:BOk b){d L:List Int}(hd:DOk b d)(hL:L.length≤64)(p:Int)(e:Bool):RetP Tryd.prog is orc 97 [crU b d,.lst .ro 1 (zF L),.int .i64 p,.int .i64 (endN e)] (.lst .ro 1 (zF (mnS b d L p e b.scenes.length))):=by
 refine yC body97 pure97 (hi 97 (by decide)) rfl rfl (fun u hu=>?_) (.inl (zn 6 .ro (fun h=>by cases h) 1 _)) ?_
 ·simp only[List.mem_cons,List.not_mem_nil,or_false]at hu
  rcases hu with rfl|rfl|rfl|rfl
  ·exact zBC b d 4
  ·exact zn 6 .ro (fun h=>by cases h) 1 L
  ·exact .int _ _ _
  ·exact .int _ _ _
 have hn:=h.sn
 have q109:=retWay (orc:=orc) hi e
 refine kQ (yH rfl rfl (zA rfl (zC ?_)))
 refine zK [(1,.lst .ro 1 (zF L)),(2,.int .i64 p),(3,.int .i64 (endN e)),(4,U.box 0 0)] ([SB.box (Bk.cd b d)]) (.c4 rfl rfl rfl rfl (.nil rfl)) rfl fun fr=>?_
 refine kQ (zA rfl (zC (kQ (zB rfl (zN rfl (q109) (.lrefl _) (zA rfl (zC (k_seq ?_))))))))
 refine kQ (zD rfl rfl zAN (zD rfl rfl wD (zD rfl rfl yd (zE rfl rfl rfl sh23 rfl (zp rfl ty23 rfl (List.length_map _) ?_)))))
 refine zB rfl (zC (zQ ?_))
 obtain⟨V,hV⟩:∃V:List SB,V=[.box (Bk.cd b d)]:=⟨_,rfl⟩
 refine yr (fun kk s2=>∃i:Nat,kk+i=b.scenes.length∧(∃ev,s2.st=V++ev)∧Holds s2 [(1,.lst .ro 1 (zF L)),(2,.int .i64 p),(4,.box 0 0),(9,accI (mnS b d L p e i)),(10,.fn (wayN e) [] []),(18,.lst .ro 5 (scsU b.scenes)),(19,.int .i64 b.scenes.length),(20,.int .i64 i)]) (fun kk s2 hI=>?_) b.scenes.length _ ⟨0,rfl,⟨[],by rw[hV];rfl⟩,.c4 rfl rfl rfl rfl (.c4 rfl rfl rfl rfl (.nil rfl))⟩
 obtain⟨i,hk,⟨ev,hst2⟩,hs2⟩:=hI
 have hlen:=(mnS_b (L:=L) h hd p e i).1
 generalize hY:V++ev=Y at hst2
 have y0:Y[0]? =some (.box (Bk.cd b d)):=by rw[←hY,hV];rfl
 by_cases hin:i<b.scenes.length
 ·obtain⟨q,hq⟩:∃q,b.scenes[i]? =some q:=⟨b.scenes[i],List.getElem?_eq_getElem hin⟩
  have hsu:=mnS_at (d:=d) (L:=L) (p:=p) (e:=e) hq
  have qE:=retEnd (orc:=orc) hi e q
  have q87:=ret87 (orc:=orc) hi L i (by omega)
  have hdl:=hd.len
  unfold elM at hsu
  generalize mnS b d L p e i=M at*
  refine zK _ _ hs2 hst2 fun fr2=>?_
  by_cases c1:q.part≠p
  ·rw[if_pos (.inl c1),List.append_nil]at hsu
   refine kQ (ze rfl rfl rfl (zC (k_seq (k_cT rfl (decide_eq_true (by omega)) (zU (k_seq (zQ (kQ ?_))))))))
   refine zB rfl (yG (u:=(q).u) rfl ty23 rfl rfl (Int.natCast_nonneg _) (by simp[hq]) cl50 ?_)
   refine wT rfl rfl sh50 rfl ?_
   refine zu rfl ze50 ?_
   refine zA rfl (zd rfl (zc _ _) sh50 rfl rfl rfl rfl rfl ?_)
   refine zC ?_
   refine zK [(1,.lst .ro 1 (zF L)),(2,.int .i64 p),(4,U.box 0 0),(9,accI M),(10,U.fn (wayN e) [] []),(11,.int .i64 ↑i),(12,U.box (List.length Y) 0),(18,.lst .ro 5 (scsU (Bk.scenes b))),(19,.int .i64 ↑(List.length (Bk.scenes b))),(20,.int .i64 ↑i)] (Y++[SB.box [.int .i64 (Sc.part q),.int .i64 (Sc.wt q),.int .i64 (Sc.lo q),.int .i64 (Sc.hi q),U.bool (Sc.must q)]]) (.c4 rfl rfl rfl rfl (.c4 rfl rfl rfl rfl (.cons rfl (.cons rfl (.nil rfl))))) (yW _ _ _) fun fr=>?_
   refine zQ (kQ (zD rfl rfl zAB (zE rfl rfl (zc _ _) sh3 rfl ?_)))
   refine zB rfl (wF rfl rfl rfl (zB rfl (o_gS rfl rfl rfl rfl (decide_eq_true (by omega)) (o_gS rfl rfl rfl rfl (decide_eq_true (by omega)) (o_gS rfl rfl rfl rfl (decide_eq_true (by omega)) (zT rfl rfl (decide_eq_true (by omega)) ?_))))))
   refine zA rfl (zC (k_cT rfl rfl ?_))
   refine zU (k_region ?_)
   refine yV rfl rfl rfl (by unfold I64;omega) (zB rfl (zC ?_))
   exact⟨kk - 1,by omega,i+1,by omega,⟨_,by first|(show Y++_=_;exact grow hY)|(show(Y++[SB.box _]).set Y.length (SB.box _)=_;rw[yW];exact grow hY)⟩,.cons rfl (.cons rfl (.cons rfl (.cons (congrArg accI hsu.symm) (.c4 rfl rfl rfl rfl (.nil rfl)))))⟩
  ·by_cases c2:(i:Int)∈L
   ·rw[if_pos (.inr c2),List.append_nil]at hsu
    rw[decide_eq_true c2]at q87
    refine kQ (ze rfl rfl rfl (zC (k_seq (k_cT rfl (decide_eq_true (by omega)) (zU (k_seq (zQ (kQ ?_))))))))
    refine zB rfl (yG (u:=(q).u) rfl ty23 rfl rfl (Int.natCast_nonneg _) (by simp[hq]) cl50 ?_)
    refine wT rfl rfl sh50 rfl ?_
    refine zu rfl ze50 ?_
    refine zA rfl (zd rfl (zc _ _) sh50 rfl rfl rfl rfl rfl ?_)
    refine zC ?_
    refine zK [(1,.lst .ro 1 (zF L)),(2,.int .i64 p),(4,U.box 0 0),(9,accI M),(10,U.fn (wayN e) [] []),(11,.int .i64 ↑i),(12,U.box (List.length Y) 0),(18,.lst .ro 5 (scsU (Bk.scenes b))),(19,.int .i64 ↑(List.length (Bk.scenes b))),(20,.int .i64 ↑i)] (Y++[SB.box [.int .i64 (Sc.part q),.int .i64 (Sc.wt q),.int .i64 (Sc.lo q),.int .i64 (Sc.hi q),U.bool (Sc.must q)]]) (.c4 rfl rfl rfl rfl (.c4 rfl rfl rfl rfl (.cons rfl (.cons rfl (.nil rfl))))) (yW _ _ _) fun fr=>?_
    refine zQ (kQ (zD rfl rfl zAB (zE rfl rfl (zc _ _) sh3 rfl ?_)))
    refine zB rfl (wF rfl rfl rfl (zB rfl (o_gD rfl rfl rfl rfl (decide_eq_false (by omega)) (zB rfl (o_gD rfl rfl rfl rfl (decide_eq_false (by omega)) (zB rfl (o_gD rfl rfl rfl rfl (decide_eq_false (by omega)) (zN rfl (q87) (.lrefl _) ?_))))))))
    refine zL rfl rfl (decide_eq_false (by omega)) ?_
    refine zA rfl (zC (k_cT rfl rfl ?_))
    refine zU (k_region ?_)
    refine yV rfl rfl rfl (by unfold I64;omega) (zB rfl (zC ?_))
    exact⟨kk - 1,by omega,i+1,by omega,⟨_,by first|(show Y++_=_;exact grow hY)|(show(Y++[SB.box _]).set Y.length (SB.box _)=_;rw[yW];exact grow hY)⟩,.cons rfl (.cons rfl (.cons rfl (.cons (congrArg accI hsu.symm) (.c4 rfl rfl rfl rfl (.nil rfl)))))⟩
   ·rw[if_neg (by rintro(h|h);exact c1 h;exact c2 h)]at hsu
    rw[decide_eq_false c2]at q87
    unfold tkI at hsu
    by_cases c3:i<d.length
    ·obtain⟨y,hy⟩:∃y,d[i]? =some y:=⟨d[i],List.getElem?_eq_getElem c3⟩
     rw[if_pos c3,hy]at hsu
     have hsu:mnS b d L p e (i+1)=M++[y]:=hsu
     cases M with
     |nil=>
      refine kQ (ze rfl rfl rfl (zC (k_seq (k_cT rfl (decide_eq_true (by omega)) (zU (k_seq (zQ (kQ ?_))))))))
      refine zB rfl (yG (u:=(q).u) rfl ty23 rfl rfl (Int.natCast_nonneg _) (by simp[hq]) cl50 ?_)
      refine wT rfl rfl sh50 rfl ?_
      refine zu rfl ze50 ?_
      refine zA rfl (zd rfl (zc _ _) sh50 rfl rfl rfl rfl rfl ?_)
      refine zC ?_
      refine zK [(1,.lst .ro 1 (zF L)),(2,.int .i64 p),(4,U.box 0 0),(9,accI []),(10,U.fn (wayN e) [] []),(11,.int .i64 ↑i),(12,U.box (List.length Y) 0),(18,.lst .ro 5 (scsU (Bk.scenes b))),(19,.int .i64 ↑(List.length (Bk.scenes b))),(20,.int .i64 ↑i)] (Y++[SB.box [.int .i64 (Sc.part q),.int .i64 (Sc.wt q),.int .i64 (Sc.lo q),.int .i64 (Sc.hi q),U.bool (Sc.must q)]]) (.c4 rfl rfl rfl rfl (.c4 rfl rfl rfl rfl (.cons rfl (.cons rfl (.nil rfl))))) (yW _ _ _) fun fr=>?_
      refine zQ (kQ (zD rfl rfl zAB (zE rfl rfl (zc _ _) sh3 rfl ?_)))
      refine zB rfl (wF rfl rfl rfl (zB rfl (o_gD rfl rfl rfl rfl (decide_eq_false (by omega)) (zB rfl (o_gD rfl rfl rfl rfl (decide_eq_false (by omega)) (zB rfl (o_gD rfl rfl rfl rfl (decide_eq_false (by omega)) (zN rfl (q87) (.lrefl _) ?_))))))))
      refine zL rfl rfl (decide_eq_false (by omega)) ?_
      refine zA rfl (zC (k_cF rfl rfl ?_))
      refine kQ (zB rfl (zD rfl rfl zBA (zE rfl rfl (yP y0) sh22 rfl ?_)))
      refine zp rfl ty22 rfl (List.length_map _) ?_
      refine ze rfl rfl rfl (zA rfl (zC (k_cT rfl (decide_eq_true (by omega)) (k_region (zB rfl (zD rfl rfl zBA (zE rfl rfl (yP y0) sh22 rfl ?_)))))))
      refine zB rfl (yG (u:=.int .i64 (y)) rfl ty22 rfl rfl (Int.natCast_nonneg _) (by simp[hy]) cl3 ?_)
      refine zV rfl rfl sh3 rfl ?_
      refine zDE (es:=[.int .i64 y]) rfl ty22 ze3 cl3 rfl rfl rfl rfl rfl rfl rfl rfl ?_
      refine zCa rfl zEZ rfl rfl (by simp) (by simp) (by simp[yR,zz,oneU]) (by simp) ?_
      refine zA rfl (zC ?_)
      refine zK [(1,.lst .ro 1 (zF L)),(2,.int .i64 p),(4,U.box 0 0),(9,U.lst Kd.own 1 [.int .i64 y]),(10,U.fn (wayN e) [] []),(18,.lst .ro 5 (scsU (Bk.scenes b))),(19,.int .i64 ↑(List.length (Bk.scenes b))),(20,.int .i64 ↑i),(39,.lst .ro 1 (zF L)),(40,.int .i64 ↑i),(41,.bool false)] (Y++[SB.box [.int .i64 (Sc.part q),.int .i64 (Sc.wt q),.int .i64 (Sc.lo q),.int .i64 (Sc.hi q),U.bool (Sc.must q)]]) (.c4 rfl rfl rfl rfl (.c4 rfl rfl rfl rfl (.cons rfl (.cons rfl (.cons rfl (.nil rfl)))))) rfl fun fr=>?_
      refine k_region ?_
      refine yV rfl rfl rfl (by unfold I64;omega) (zB rfl (zC ?_))
      exact⟨kk - 1,by omega,i+1,by omega,⟨_,by first|(show Y++_=_;exact grow hY)|(show(Y++[SB.box _]).set Y.length (SB.box _)=_;rw[yW];exact grow hY)⟩,.cons rfl (.cons rfl (.cons rfl (.cons (by rw[hsu];rfl) (.c4 rfl rfl rfl rfl (.nil rfl)))))⟩
     |cons z M=>
      refine kQ (ze rfl rfl rfl (zC (k_seq (k_cT rfl (decide_eq_true (by omega)) (zU (k_seq (zQ (kQ ?_))))))))
      refine zB rfl (yG (u:=(q).u) rfl ty23 rfl rfl (Int.natCast_nonneg _) (by simp[hq]) cl50 ?_)
      refine wT rfl rfl sh50 rfl ?_
      refine zu rfl ze50 ?_
      refine zA rfl (zd rfl (zc _ _) sh50 rfl rfl rfl rfl rfl ?_)
      refine zC (zQ (kQ (zD rfl rfl zAB (zE rfl rfl (zDx _ _ _) sh3 rfl ?_))))
      refine zB rfl (wF rfl rfl rfl (zB rfl (o_gD rfl rfl rfl rfl (decide_eq_false (by omega)) (zB rfl (o_gD rfl rfl rfl rfl (decide_eq_false (by omega)) (zB rfl (o_gD rfl rfl rfl rfl (decide_eq_false (by omega)) (zN rfl (q87) (.lrefl _) ?_))))))))
      refine zL rfl rfl (decide_eq_false (by omega)) ?_
      refine zA rfl (zC (k_cF rfl rfl ?_))
      refine kQ (zB rfl (zD rfl rfl zBA (zE rfl rfl (at_ps y0 (Nat.le_refl _)) sh22 rfl ?_)))
      refine zp rfl ty22 rfl (List.length_map _) ?_
      refine ze rfl rfl rfl (zA rfl (zC (k_cT rfl (decide_eq_true (by omega)) (k_region (zB rfl (zD rfl rfl zBA (zE rfl rfl (at_ps y0 (Nat.le_refl _)) sh22 rfl ?_)))))))
      refine zB rfl (yG (u:=.int .i64 (y)) rfl ty22 rfl rfl (Int.natCast_nonneg _) (by simp[hy]) cl3 ?_)
      refine zV rfl rfl sh3 rfl ?_
      refine zDE (es:=[.int .i64 y]) rfl ty22 ze3 cl3 rfl rfl rfl rfl rfl rfl rfl rfl ?_
      refine zCZ 9 rfl zEZ rfl rfl rfl (by simp) (by simp) (by simp[yR,zz,oneU]) (by simp at hlen ⊢;omega) ?_
      refine zA rfl (zC (k_region ?_))
      refine yV rfl rfl rfl (by unfold I64;omega) (zB rfl (zC ?_))
      exact⟨kk - 1,by omega,i+1,by omega,⟨_,by first|(show Y++_=_;exact grow hY)|(show(Y++[SB.box _]).set Y.length (SB.box _)=_;rw[yW];exact grow hY)⟩,.cons rfl (.cons rfl (.cons rfl (.cons (by rw[hsu,zCl];rfl) (.c4 rfl rfl rfl rfl (.nil rfl)))))⟩
    ·rw[if_neg c3]at hsu
     cases M with
     |nil=>
      refine kQ (ze rfl rfl rfl (zC (k_seq (k_cT rfl (decide_eq_true (by omega)) (zU (k_seq (zQ (kQ ?_))))))))
      refine zB rfl (yG (u:=(q).u) rfl ty23 rfl rfl (Int.natCast_nonneg _) (by simp[hq]) cl50 ?_)
      refine wT rfl rfl sh50 rfl ?_
      refine zu rfl ze50 ?_
      refine zA rfl (zd rfl (zc _ _) sh50 rfl rfl rfl rfl rfl ?_)
      refine zC ?_
      refine zK [(1,.lst .ro 1 (zF L)),(2,.int .i64 p),(4,U.box 0 0),(9,accI []),(10,U.fn (wayN e) [] []),(11,.int .i64 ↑i),(12,U.box (List.length Y) 0),(18,.lst .ro 5 (scsU (Bk.scenes b))),(19,.int .i64 ↑(List.length (Bk.scenes b))),(20,.int .i64 ↑i)] (Y++[SB.box [.int .i64 (Sc.part q),.int .i64 (Sc.wt q),.int .i64 (Sc.lo q),.int .i64 (Sc.hi q),U.bool (Sc.must q)]]) (.c4 rfl rfl rfl rfl (.c4 rfl rfl rfl rfl (.cons rfl (.cons rfl (.nil rfl))))) (yW _ _ _) fun fr=>?_
      refine zQ (kQ (zD rfl rfl zAB (zE rfl rfl (zc _ _) sh3 rfl ?_)))
      refine zB rfl (wF rfl rfl rfl (zB rfl (o_gD rfl rfl rfl rfl (decide_eq_false (by omega)) (zB rfl (o_gD rfl rfl rfl rfl (decide_eq_false (by omega)) (zB rfl (o_gD rfl rfl rfl rfl (decide_eq_false (by omega)) (zN rfl (q87) (.lrefl _) ?_))))))))
      refine zL rfl rfl (decide_eq_false (by omega)) ?_
      refine zA rfl (zC (k_cF rfl rfl ?_))
      refine kQ (zB rfl (zD rfl rfl zBA (zE rfl rfl (yP y0) sh22 rfl ?_)))
      refine zp rfl ty22 rfl (List.length_map _) ?_
      refine ze rfl rfl rfl (zA rfl (zC (k_cF rfl (decide_eq_false (by omega)) (k_region (zB rfl (zB rfl (zD rfl rfl zAA (zP rfl rfl (zc _ _) sh48 rfl ?_))))))))
      refine wY rfl ze137 pl137 rfl rfl ?_
      refine zCu rfl rfl qE (.lrefl _) ?_
      refine zDE (es:=[.int .i64 (endI e q)]) rfl ty22 ze3 cl3 rfl rfl rfl rfl rfl rfl rfl rfl ?_
      refine zCa rfl zEZ rfl rfl (by simp) (by simp) (by simp[yR,zz,oneU]) (by simp) ?_
      refine zA rfl (zC ?_)
      refine zK [(1,.lst .ro 1 (zF L)),(2,.int .i64 p),(4,U.box 0 0),(9,U.lst Kd.own 1 [.int .i64 (endI e q)]),(10,U.fn (wayN e) [] []),(18,.lst .ro 5 (scsU (Bk.scenes b))),(19,.int .i64 ↑(List.length (Bk.scenes b))),(20,.int .i64 ↑i),(39,.lst .ro 1 (zF L)),(40,.int .i64 ↑i),(41,.bool false)] (Y++[SB.box [.int .i64 (Sc.part q),.int .i64 (Sc.wt q),.int .i64 (Sc.lo q),.int .i64 (Sc.hi q),U.bool (Sc.must q)]]) (.c4 rfl rfl rfl rfl (.c4 rfl rfl rfl rfl (.cons rfl (.cons rfl (.cons rfl (.nil rfl)))))) rfl fun fr=>?_
      refine k_region ?_
      refine yV rfl rfl rfl (by unfold I64;omega) (zB rfl (zC ?_))
      exact⟨kk - 1,by omega,i+1,by omega,⟨_,by first|(show Y++_=_;exact grow hY)|(show(Y++[SB.box _]).set Y.length (SB.box _)=_;rw[yW];exact grow hY)⟩,.cons rfl (.cons rfl (.cons rfl (.cons (by rw[hsu];rfl) (.c4 rfl rfl rfl rfl (.nil rfl)))))⟩
     |cons z M=>
      refine kQ (ze rfl rfl rfl (zC (k_seq (k_cT rfl (decide_eq_true (by omega)) (zU (k_seq (zQ (kQ ?_))))))))
      refine zB rfl (yG (u:=(q).u) rfl ty23 rfl rfl (Int.natCast_nonneg _) (by simp[hq]) cl50 ?_)
      refine wT rfl rfl sh50 rfl ?_
      refine zu rfl ze50 ?_
      refine zA rfl (zd rfl (zc _ _) sh50 rfl rfl rfl rfl rfl ?_)
      refine zC (zQ (kQ (zD rfl rfl zAB (zE rfl rfl (zDx _ _ _) sh3 rfl ?_))))
      refine zB rfl (wF rfl rfl rfl (zB rfl (o_gD rfl rfl rfl rfl (decide_eq_false (by omega)) (zB rfl (o_gD rfl rfl rfl rfl (decide_eq_false (by omega)) (zB rfl (o_gD rfl rfl rfl rfl (decide_eq_false (by omega)) (zN rfl (q87) (.lrefl _) ?_))))))))
      refine zL rfl rfl (decide_eq_false (by omega)) ?_
      refine zA rfl (zC (k_cF rfl rfl ?_))
      refine kQ (zB rfl (zD rfl rfl zBA (zE rfl rfl (at_ps y0 (Nat.le_refl _)) sh22 rfl ?_)))
      refine zp rfl ty22 rfl (List.length_map _) ?_
      refine ze rfl rfl rfl (zA rfl (zC (k_cF rfl (decide_eq_false (by omega)) (k_region (zB rfl (zB rfl (zD rfl rfl zAA (zP rfl rfl (zDx _ _ _) sh48 rfl ?_))))))))
      refine wY rfl ze137 pl137 rfl rfl ?_
      refine zCu rfl rfl qE (.lrefl _) ?_
      refine zDE (es:=[.int .i64 (endI e q)]) rfl ty22 ze3 cl3 rfl rfl rfl rfl rfl rfl rfl rfl ?_
      refine zCZ 9 rfl zEZ rfl rfl rfl (by simp) (by simp) (by simp[yR,zz,oneU]) (by simp at hlen ⊢;omega) ?_
      refine zA rfl (zC (k_region ?_))
      refine yV rfl rfl rfl (by unfold I64;omega) (zB rfl (zC ?_))
      exact⟨kk - 1,by omega,i+1,by omega,⟨_,by first|(show Y++_=_;exact grow hY)|(show(Y++[SB.box _]).set Y.length (SB.box _)=_;rw[yW];exact grow hY)⟩,.cons rfl (.cons rfl (.cons rfl (.cons (by rw[hsu,zCl];rfl) (.c4 rfl rfl rfl rfl (.nil rfl)))))⟩
 ·have hie:b.scenes.length=i:=by omega
  rw[hie]
  have hu:=uw_accI (mnS b d L p e i)
  generalize mnS b d L p e i=M at*
  refine zK _ _ hs2 hst2 fun fr2=>?_
  refine kQ (ze rfl rfl rfl (zC (k_seq (k_cF rfl (decide_eq_false (by omega)) (yf (kQ (zB rfl (zA rfl ?_))))))))
  refine zC (zZ ?_)
  refine⟨.inr rfl,_,.cons _ _ _ _ (.tmp 8) .nil,?_⟩
  exact hu
end
section
variable {is:FuncId→Bool}{orc:Known}
theorem sh72:shOf Tryd.prog 72=.many 11:=by kernel_rfl
theorem sh98:shOf Tryd.prog 98=.many 3:=by kernel_rfl
theorem ty98:tyOf Tryd.prog 98=.array 3 3:=by kernel_rfl
theorem ze98:yT Tryd.prog 98=some ((.cons (.int .i64 0) (.cons (.int .i64 0) (.cons (.int .i64 0) .nil))):V):=by kernel_rfl
noncomputable def b79:Code:=(Tryd.f79.body).getD .skip
theorem body79:bodyOf Tryd.prog 79=some (38,b79,[.cell 6 98]):=by kernel_rfl
theorem pure79:pureFn Tryd.prog 79=true:=by kernel_rfl
noncomputable def b83:Code:=(Tryd.f83.body).getD .skip
theorem body83:bodyOf Tryd.prog 83=some (31,b83,[.cell 4 98]):=by kernel_rfl
theorem pure83:pureFn Tryd.prog 83=true:=by kernel_rfl
theorem pl98:zGH Tryd.prog 98=some [(0,1),(1,1),(2,1)]:=by kernel_rfl
noncomputable def b58:Code:=(Tryd.f58.body).getD .skip
theorem body58:bodyOf Tryd.prog 58=some (10,b58,[.tmp 4]):=by kernel_rfl
theorem pure58:pureFn Tryd.prog 58=true:=by kernel_rfl
def clS(b:Bk)(d L:List Int)(e:Bool):Nat→Int
 |0=>b.bg
 |p+1=>max (clS b d L e p) ((b.opens[p]?).getD 0)+sumI (mnS b d L p e b.scenes.length)
theorem mn_sb{b:Bk}(h:BOk b){d:List Int}(hd:DOk b d)(L:List Int)(p:Int)(e:Bool): -6000≤sumI (mnS b d L p e b.scenes.length)∧sumI (mnS b d L p e b.scenes.length)≤6000:=by
 obtain⟨h1,h2⟩:=mnS_b (L:=L) h hd p e b.scenes.length
 have:=h.sn
 have:=sum_b (B:=600) (by omega) fun x hx=>by have:=h2 x hx;omega
 omega
theorem op_b{b:Bk}(h:BOk b)(p:Nat):0≤(b.opens[p]?).getD 0∧(b.opens[p]?).getD 0≤2000:=by
 cases hq:b.opens[p]? with
 |none=>simp
 |some x=>exact h.ops x (List.mem_of_getElem? hq)
theorem clS_b{b:Bk}(h:BOk b){d:List Int}(hd:DOk b d)(L:List Int)(e:Bool)(p:Nat): -6000≤clS b d L e p∧clS b d L e p≤4000+6000*p:=by
 induction p with
 |zero=>have:=h.bg;show -6000≤b.bg∧b.bg≤_;omega
 |succ p ih=>
  have h1:=mn_sb h hd L p e
  have h2:=op_b h p
  show -6000≤max (clS b d L e p) ((b.opens[p]?).getD 0)+sumI (mnS b d L p e b.scenes.length)∧max (clS b d L e p) ((b.opens[p]?).getD 0)+sumI (mnS b d L p e b.scenes.length)≤_
  omega
abbrev tri(x y z:Int):List U:=[.int .i64 x,.int .i64 y,.int .i64 z]
set_option maxHeartbeats 8000000 in
theorem ret79(hi:Off is){b:Bk}(h:BOk b){d L:List Int}(hd:DOk b d)(hL:L.length≤64)(e:Bool):RetP Tryd.prog is orc 79 [crU b d,.lst .ro 1 (zF L),.int .i64 (endN e)] (.agg (tri (clS b d L e 1) (clS b d L e 2) (clS b d L e 3))):=by
 refine yC body79 pure79 (hi 79 (by decide)) rfl rfl (zEi (zBC b d 4) (zn 6 .ro (fun h=>by cases h) 1 L) (.int _ _ _)) (.inl (.agg _ _ (zEi (k:=7) (.int _ _ _) (.int _ _ _) (.int _ _ _)))) ?_
 have hop:=h.op
 obtain⟨o0,ho0⟩:∃x,b.opens[0]? =some x:=⟨b.opens[0],List.getElem?_eq_getElem (by omega)⟩
 obtain⟨o1,ho1⟩:∃x,b.opens[1]? =some x:=⟨b.opens[1],List.getElem?_eq_getElem (by omega)⟩
 obtain⟨o2,ho2⟩:∃x,b.opens[2]? =some x:=⟨b.opens[2],List.getElem?_eq_getElem (by omega)⟩
 have q0:=ret97 (orc:=orc) hi h hd hL 0 e
 have q1:=ret97 (orc:=orc) hi h hd hL 1 e
 have q2:=ret97 (orc:=orc) hi h hd hL 2 e
 have hmb:=fun p=>mnS_b (L:=L) h hd p e b.scenes.length
 have hsn:=h.sn
 have t0:=ret93 (orc:=orc) hi (l:=mnS b d L 0 e b.scenes.length) (by have:=(hmb 0).1;omega) (fun x hx=>by have:=(hmb 0).2 x hx;omega)
 have t1:=ret93 (orc:=orc) hi (l:=mnS b d L 1 e b.scenes.length) (by have:=(hmb 1).1;omega) (fun x hx=>by have:=(hmb 1).2 x hx;omega)
 have t2:=ret93 (orc:=orc) hi (l:=mnS b d L 2 e b.scenes.length) (by have:=(hmb 2).1;omega) (fun x hx=>by have:=(hmb 2).2 x hx;omega)
 have b0:=mn_sb h hd L 0 e
 have b1:=mn_sb h hd L 1 e
 have b2:=mn_sb h hd L 2 e
 have e1:clS b d L e 1=max b.bg o0+sumI (mnS b d L 0 e b.scenes.length):=by show max b.bg ((b.opens[0]?).getD 0)+_=_;rw[ho0];rfl
 have e2:clS b d L e 2=max (clS b d L e 1) o1+sumI (mnS b d L 1 e b.scenes.length):=by show max _ ((b.opens[1]?).getD 0)+_=_;rw[ho1];rfl
 have e3:clS b d L e 3=max (clS b d L e 2) o2+sumI (mnS b d L 2 e b.scenes.length):=by show max _ ((b.opens[2]?).getD 0)+_=_;rw[ho2];rfl
 have c1:=clS_b h hd L e 1
 have c2:=clS_b h hd L e 2
 have c3:=clS_b h hd L e 3
 have hbg:=h.bg
 have g0:=h.ops o0 (List.mem_of_getElem? ho0)
 have g1:=h.ops o1 (List.mem_of_getElem? ho1)
 have g2:=h.ops o2 (List.mem_of_getElem? ho2)
 generalize clS b d L e 1=C1 at*
 generalize clS b d L e 2=C2 at*
 generalize clS b d L e 3=C3 at*
 generalize mnS b d L 0 e b.scenes.length=M0 at*
 generalize mnS b d L 1 e b.scenes.length=M1 at*
 generalize mnS b d L 2 e b.scenes.length=M2 at*
 generalize sumI M0=S0 at*
 generalize sumI M1=S1 at*
 generalize sumI M2=S2 at*
 refine kQ (yH rfl rfl (zu rfl ze98 ?_))
 refine zC ?_
 refine zK [(1,.lst .ro 1 (zF L)),(2,.int .i64 (endN e)),(3,U.box 0 0),(6,U.box 1 0)] ([SB.box (Bk.cd b d),SB.box [.int .i64 0,.int .i64 0,.int .i64 0]]) (.c4 rfl rfl rfl rfl (.nil rfl)) rfl fun fr=>?_
 refine kQ (zu rfl ze98 ?_)
 refine zC ?_
 refine zK [(1,.lst .ro 1 (zF L)),(2,.int .i64 (endN e)),(3,U.box 0 0),(6,U.box 1 0),(7,U.box 2 0)] ([SB.box (Bk.cd b d),SB.box [.int .i64 0,.int .i64 0,.int .i64 0],SB.box [.int .i64 0,.int .i64 0,.int .i64 0]]) (.c4 rfl rfl rfl rfl (.cons rfl (.nil rfl))) rfl fun fr=>?_
 refine kQ (zD rfl rfl zAN (zD rfl rfl wD (zD rfl rfl zAD (zE rfl rfl rfl sh3 rfl (zA rfl (zC (k_seq (kQ ?_))))))))
 refine zB rfl (zC (zQ ?_))
 refine yr (fun kk s2=>(kk=3∧s2.st=[.box (Bk.cd b d),.box (tri 0 0 0),.box (tri 0 0 0)]∧Holds s2 [(1,.lst .ro 1 (zF L)),(2,.int .i64 (endN e)),(3,.box 0 0),(6,.box 1 0),(7,.box 2 0),(8,.int .i64 b.bg),(14,.int .i64 0)])∨(kk=2∧s2.st=[.box (Bk.cd b d),.box (tri 0 0 0),.box (tri C1 0 0)]∧Holds s2 [(1,.lst .ro 1 (zF L)),(2,.int .i64 (endN e)),(3,.box 0 0),(6,.box 1 0),(7,.box 2 0),(8,.int .i64 C1),(14,.int .i64 1)])∨(kk=1∧s2.st=[.box (Bk.cd b d),.box (tri 0 0 0),.box (tri C1 C2 0)]∧Holds s2 [(1,.lst .ro 1 (zF L)),(2,.int .i64 (endN e)),(3,.box 0 0),(6,.box 1 0),(7,.box 2 0),(8,.int .i64 C2),(14,.int .i64 2)])∨(kk=0∧s2.st=[.box (Bk.cd b d),.box (tri 0 0 0),.box (tri C1 C2 C3)]∧Holds s2 [(1,.lst .ro 1 (zF L)),(2,.int .i64 (endN e)),(3,.box 0 0),(6,.box 1 0),(7,.box 2 0),(8,.int .i64 C3),(14,.int .i64 3)])) (fun kk s2 hI=>?_) 3 _ (.inl ⟨rfl,rfl,.c4 rfl rfl rfl rfl (.cons rfl (.cons rfl (.cons rfl (.nil rfl))))⟩)
 rcases hI with ⟨hk,hst2,hs2⟩|⟨hk,hst2,hs2⟩|⟨hk,hst2,hs2⟩|⟨hk,hst2,hs2⟩
 ·refine zK _ _ hs2 hst2 fun fr2=>?_
  refine kQ (ze rfl rfl rfl (zC (k_seq (k_cT rfl rfl ?_))))
  refine zU (k_seq (zQ (kQ (zB rfl (zA rfl (zC (k_seq (zAz [.plain,.plain,.plain,.plain,.read true,.plain,.plain,.read true,.read true,.read true,.plain,.plain,.plain,.quiet,.read false,.plain,.plain] (by kernel_rfl) (by kernel_rfl) (by kernel_rfl) ?_))))))))
  refine zG (zB rfl (zC rfl)) (zG (zD rfl rfl zAN (zC rfl)) ?_)
  refine zG (zD rfl rfl wD (zC rfl)) ?_
  refine zG (zD rfl rfl zAh (zC rfl)) ?_
  refine yM rfl (zE rfl rfl rfl sh22 rfl (zC rfl)) (zG (zB rfl (zC rfl)) (zG (yG (u:=.int .i64 (o0)) rfl ty22 rfl rfl (Int.natCast_nonneg _) (by simp[ho0]) cl3 (zC rfl)) ?_))
  refine yM rfl (zV rfl rfl sh3 rfl (zC rfl)) ?_
  refine yM rfl (o_max rfl rfl rfl (zC rfl)) ?_
  refine zBj [(1,.lst .ro 1 (zF L)),(2,.int .i64 (endN e)),(3,U.box 0 0),(6,U.box 1 0),(7,U.box 2 0),(9,.int .i64 0),(14,.int .i64 0),(25,.int .i64 (Max.max (Bk.bg b) o0))] [] ([SB.box (Bk.cd b d),SB.box (tri (0:Int) (0:Int) (0:Int)),SB.box (tri (0:Int) (0:Int) (0:Int))]) (.c4 rfl rfl rfl rfl (.c4 rfl rfl rfl rfl (.nil rfl))) rfl rfl fun fr=>?_
  refine yM rfl (zP rfl rfl rfl sh72 rfl (zC rfl)) ?_
  refine zG (zB rfl (zC rfl)) (zG (zB rfl (zC rfl)) (zG (zB rfl (zC rfl)) (d_callQ rfl (q0) (.lrefl _) ?_)))
  refine zBD rfl (t0) (.int _ _) (.lrefl _) ?_
  refine zG (yV rfl rfl rfl (by unfold I64;omega) (zC rfl)) ?_
  refine zG (zA rfl (zC rfl)) ?_
  refine zCg ?_
  refine zK [(1,.lst .ro 1 (zF L)),(2,.int .i64 (endN e)),(3,U.box 0 0),(6,U.box 1 0),(7,U.box 2 0),(8,.int .i64 (Max.max (Bk.bg b) o0+S0)),(9,.int .i64 0),(14,.int .i64 0)] ([SB.box (Bk.cd b d),SB.box (tri (0:Int) (0:Int) (0:Int)),SB.box (tri (0:Int) (0:Int) (0:Int))]) (.c4 rfl rfl rfl rfl (.c4 rfl rfl rfl rfl (.nil rfl))) rfl fun fr=>?_
  refine k_region (zB rfl (zB rfl (zCX rfl ty98 rfl rfl (by omega) (by omega) cl3 ?_)))
  refine wB rfl rfl sh3 rfl rfl (zC ?_)
  refine zK [(1,.lst .ro 1 (zF L)),(2,.int .i64 (endN e)),(3,U.box 0 0),(6,U.box 1 0),(7,U.box 2 0),(8,.int .i64 (Max.max (Bk.bg b) o0+S0)),(14,.int .i64 0)] ([SB.box (Bk.cd b d),SB.box (tri (0:Int) (0:Int) (0:Int)),SB.box (List.set (tri (0:Int) (0:Int) (0:Int)) (0+Int.toNat (0:Int)*1) (.int .i64 (Max.max (Bk.bg b) o0+S0)))]) (.c4 rfl rfl rfl rfl (.cons rfl (.cons rfl (.cons rfl (.nil rfl))))) rfl fun fr=>?_
  refine k_region ?_
  refine yV rfl rfl rfl (by unfold I64;omega) (zB rfl (zC ?_))
  exact⟨2,by omega,.inr (.inl ⟨rfl,(by rw[e1];rfl),.c4 rfl rfl rfl rfl (.cons rfl (.cons (by rw[e1];rfl) (.cons rfl (.nil rfl))))⟩)⟩
 ·refine zK _ _ hs2 hst2 fun fr2=>?_
  refine kQ (ze rfl rfl rfl (zC (k_seq (k_cT rfl rfl ?_))))
  refine zU (k_seq (zQ (kQ (zB rfl (zA rfl (zC (k_seq (zAz [.plain,.plain,.plain,.plain,.read true,.plain,.plain,.read true,.read true,.read true,.plain,.plain,.plain,.quiet,.read false,.plain,.plain] (by kernel_rfl) (by kernel_rfl) (by kernel_rfl) ?_))))))))
  refine zG (zB rfl (zC rfl)) (zG (zD rfl rfl zAN (zC rfl)) ?_)
  refine zG (zD rfl rfl wD (zC rfl)) ?_
  refine zG (zD rfl rfl zAh (zC rfl)) ?_
  refine yM rfl (zE rfl rfl rfl sh22 rfl (zC rfl)) (zG (zB rfl (zC rfl)) (zG (yG (u:=.int .i64 (o1)) rfl ty22 rfl rfl (Int.natCast_nonneg _) (by simp[ho1]) cl3 (zC rfl)) ?_))
  refine yM rfl (zV rfl rfl sh3 rfl (zC rfl)) ?_
  refine yM rfl (o_max rfl rfl rfl (zC rfl)) ?_
  refine zBj [(1,.lst .ro 1 (zF L)),(2,.int .i64 (endN e)),(3,U.box 0 0),(6,U.box 1 0),(7,U.box 2 0),(9,.int .i64 1),(14,.int .i64 1),(25,.int .i64 (Max.max C1 o1))] [] ([SB.box (Bk.cd b d),SB.box (tri (0:Int) (0:Int) (0:Int)),SB.box (tri C1 (0:Int) (0:Int))]) (.c4 rfl rfl rfl rfl (.c4 rfl rfl rfl rfl (.nil rfl))) rfl rfl fun fr=>?_
  refine yM rfl (zP rfl rfl rfl sh72 rfl (zC rfl)) ?_
  refine zG (zB rfl (zC rfl)) (zG (zB rfl (zC rfl)) (zG (zB rfl (zC rfl)) (d_callQ rfl (q1) (.lrefl _) ?_)))
  refine zBD rfl (t1) (.int _ _) (.lrefl _) ?_
  refine zG (yV rfl rfl rfl (by unfold I64;omega) (zC rfl)) ?_
  refine zG (zA rfl (zC rfl)) ?_
  refine zCg ?_
  refine zK [(1,.lst .ro 1 (zF L)),(2,.int .i64 (endN e)),(3,U.box 0 0),(6,U.box 1 0),(7,U.box 2 0),(8,.int .i64 (Max.max C1 o1+S1)),(9,.int .i64 1),(14,.int .i64 1)] ([SB.box (Bk.cd b d),SB.box (tri (0:Int) (0:Int) (0:Int)),SB.box (tri C1 (0:Int) (0:Int))]) (.c4 rfl rfl rfl rfl (.c4 rfl rfl rfl rfl (.nil rfl))) rfl fun fr=>?_
  refine k_region (zB rfl (zB rfl (zCX rfl ty98 rfl rfl (by omega) (by omega) cl3 ?_)))
  refine wB rfl rfl sh3 rfl rfl (zC ?_)
  refine zK [(1,.lst .ro 1 (zF L)),(2,.int .i64 (endN e)),(3,U.box 0 0),(6,U.box 1 0),(7,U.box 2 0),(8,.int .i64 (Max.max C1 o1+S1)),(14,.int .i64 1)] ([SB.box (Bk.cd b d),SB.box (tri (0:Int) (0:Int) (0:Int)),SB.box (List.set (tri C1 (0:Int) (0:Int)) (0+Int.toNat (1:Int)*1) (.int .i64 (Max.max C1 o1+S1)))]) (.c4 rfl rfl rfl rfl (.cons rfl (.cons rfl (.cons rfl (.nil rfl))))) rfl fun fr=>?_
  refine k_region ?_
  refine yV rfl rfl rfl (by unfold I64;omega) (zB rfl (zC ?_))
  exact⟨1,by omega,.inr (.inr (.inl ⟨rfl,(by rw[e2];rfl),.c4 rfl rfl rfl rfl (.cons rfl (.cons (by rw[e2];rfl) (.cons rfl (.nil rfl))))⟩))⟩
 ·refine zK _ _ hs2 hst2 fun fr2=>?_
  refine kQ (ze rfl rfl rfl (zC (k_seq (k_cT rfl rfl ?_))))
  refine zU (k_seq (zQ (kQ (zB rfl (zA rfl (zC (k_seq (zAz [.plain,.plain,.plain,.plain,.read true,.plain,.plain,.read true,.read true,.read true,.plain,.plain,.plain,.quiet,.read false,.plain,.plain] (by kernel_rfl) (by kernel_rfl) (by kernel_rfl) ?_))))))))
  refine zG (zB rfl (zC rfl)) (zG (zD rfl rfl zAN (zC rfl)) ?_)
  refine zG (zD rfl rfl wD (zC rfl)) ?_
  refine zG (zD rfl rfl zAh (zC rfl)) ?_
  refine yM rfl (zE rfl rfl rfl sh22 rfl (zC rfl)) (zG (zB rfl (zC rfl)) (zG (yG (u:=.int .i64 (o2)) rfl ty22 rfl rfl (Int.natCast_nonneg _) (by simp[ho2]) cl3 (zC rfl)) ?_))
  refine yM rfl (zV rfl rfl sh3 rfl (zC rfl)) ?_
  refine yM rfl (o_max rfl rfl rfl (zC rfl)) ?_
  refine zBj [(1,.lst .ro 1 (zF L)),(2,.int .i64 (endN e)),(3,U.box 0 0),(6,U.box 1 0),(7,U.box 2 0),(9,.int .i64 2),(14,.int .i64 2),(25,.int .i64 (Max.max C2 o2))] [] ([SB.box (Bk.cd b d),SB.box (tri (0:Int) (0:Int) (0:Int)),SB.box (tri C1 C2 (0:Int))]) (.c4 rfl rfl rfl rfl (.c4 rfl rfl rfl rfl (.nil rfl))) rfl rfl fun fr=>?_
  refine yM rfl (zP rfl rfl rfl sh72 rfl (zC rfl)) ?_
  refine zG (zB rfl (zC rfl)) (zG (zB rfl (zC rfl)) (zG (zB rfl (zC rfl)) (d_callQ rfl (q2) (.lrefl _) ?_)))
  refine zBD rfl (t2) (.int _ _) (.lrefl _) ?_
  refine zG (yV rfl rfl rfl (by unfold I64;omega) (zC rfl)) ?_
  refine zG (zA rfl (zC rfl)) ?_
  refine zCg ?_
  refine zK [(1,.lst .ro 1 (zF L)),(2,.int .i64 (endN e)),(3,U.box 0 0),(6,U.box 1 0),(7,U.box 2 0),(8,.int .i64 (Max.max C2 o2+S2)),(9,.int .i64 2),(14,.int .i64 2)] ([SB.box (Bk.cd b d),SB.box (tri (0:Int) (0:Int) (0:Int)),SB.box (tri C1 C2 (0:Int))]) (.c4 rfl rfl rfl rfl (.c4 rfl rfl rfl rfl (.nil rfl))) rfl fun fr=>?_
  refine k_region (zB rfl (zB rfl (zCX rfl ty98 rfl rfl (by omega) (by omega) cl3 ?_)))
  refine wB rfl rfl sh3 rfl rfl (zC ?_)
  refine zK [(1,.lst .ro 1 (zF L)),(2,.int .i64 (endN e)),(3,U.box 0 0),(6,U.box 1 0),(7,U.box 2 0),(8,.int .i64 (Max.max C2 o2+S2)),(14,.int .i64 2)] ([SB.box (Bk.cd b d),SB.box (tri (0:Int) (0:Int) (0:Int)),SB.box (List.set (tri C1 C2 (0:Int)) (0+Int.toNat (2:Int)*1) (.int .i64 (Max.max C2 o2+S2)))]) (.c4 rfl rfl rfl rfl (.cons rfl (.cons rfl (.cons rfl (.nil rfl))))) rfl fun fr=>?_
  refine k_region ?_
  refine yV rfl rfl rfl (by unfold I64;omega) (zB rfl (zC ?_))
  exact⟨0,by omega,.inr (.inr (.inr ⟨rfl,(by rw[e3];rfl),.c4 rfl rfl rfl rfl (.cons rfl (.cons (by rw[e3];rfl) (.cons rfl (.nil rfl))))⟩))⟩
 ·refine zK _ _ hs2 hst2 fun fr2=>?_
  refine kQ (ze rfl rfl rfl (zC (k_seq (k_cF rfl rfl ?_))))
  refine yf (kQ (zP rfl rfl rfl sh98 rfl (zd rfl rfl sh98 rfl rfl rfl rfl rfl ?_)))
  refine zC (zZ ?_)
  refine⟨.inr rfl,_,.cons _ _ _ _ (.cellN 6 98 _ _ _ _ rfl rfl sh98 rfl) .nil,?_⟩
  exact .refl _
def dlI(b:Bk)(d L:List Int)(p:Nat):Int:=max 0 (clS b d L true (p+1) - (b.ends[p]?).getD 0)
def fitB(b:Bk)(d L:List Int):Bool:=decide (dlI b d L 0=0)&&(decide (dlI b d L 1=0)&&decide (dlI b d L 2=0))
set_option maxHeartbeats 8000000 in
theorem ret83(hi:Off is){b:Bk}(h:BOk b){d L:List Int}(hd:DOk b d)(hL:L.length≤64):RetP Tryd.prog is orc 83 [crU b d,.lst .ro 1 (zF L)] (.agg (tri (dlI b d L 0) (dlI b d L 1) (dlI b d L 2))):=by
 refine yC body83 pure83 (hi 83 (by decide)) rfl rfl (yh (zBC b d 4) (zn 6 .ro (fun h=>by cases h) 1 L)) (.inl (.agg _ _ (zEi (k:=7) (.int _ _ _) (.int _ _ _) (.int _ _ _)))) ?_
 have hen:=h.en
 obtain⟨o0,ho0⟩:∃x,b.ends[0]? =some x:=⟨b.ends[0],List.getElem?_eq_getElem (by omega)⟩
 obtain⟨o1,ho1⟩:∃x,b.ends[1]? =some x:=⟨b.ends[1],List.getElem?_eq_getElem (by omega)⟩
 obtain⟨o2,ho2⟩:∃x,b.ends[2]? =some x:=⟨b.ends[2],List.getElem?_eq_getElem (by omega)⟩
 have q79:=ret79 (orc:=orc) hi h hd hL true
 have c1:=clS_b h hd L true 1
 have c2:=clS_b h hd L true 2
 have c3:=clS_b h hd L true 3
 have g0:=h.ens o0 (List.mem_of_getElem? ho0)
 have g1:=h.ens o1 (List.mem_of_getElem? ho1)
 have g2:=h.ens o2 (List.mem_of_getElem? ho2)
 have e1:dlI b d L 0=max 0 (clS b d L true 1 - o0):=by unfold dlI;rw[ho0];rfl
 have e2:dlI b d L 1=max 0 (clS b d L true 2 - o1):=by unfold dlI;rw[ho1];rfl
 have e3:dlI b d L 2=max 0 (clS b d L true 3 - o2):=by unfold dlI;rw[ho2];rfl
 rw[e1,e2,e3]
 generalize clS b d L true 1=C1 at*
 generalize clS b d L true 2=C2 at*
 generalize clS b d L true 3=C3 at*
 have q79:RetP Tryd.prog is orc 79 [crU b d,.lst .ro 1 (zF L),.int .i64 1] (.agg (tri C1 C2 C3)):=q79
 refine kQ (yH rfl rfl (zu rfl ze98 ?_))
 refine zC ?_
 refine zK [(1,.lst .ro 1 (zF L)),(2,U.box 0 0),(4,U.box 1 0)] ([SB.box (Bk.cd b d),SB.box [.int .i64 0,.int .i64 0,.int .i64 0]]) (.cons rfl (.cons rfl (.cons rfl (.nil rfl)))) rfl fun fr=>?_
 refine kQ (zP rfl rfl rfl sh72 rfl (zB rfl (zN rfl (q79) (.lrefl _) (zu rfl ze98 ?_))))
 refine zd rfl rfl sh98 rfl rfl rfl rfl rfl ?_
 refine zC ?_
 refine zK [(2,U.box 0 0),(4,U.box 1 0),(5,U.box 2 0)] ([SB.box (Bk.cd b d),SB.box [.int .i64 0,.int .i64 0,.int .i64 0],SB.box [.int .i64 C1,.int .i64 C2,.int .i64 C3]]) (.cons rfl (.cons rfl (.cons rfl (.nil rfl)))) rfl fun fr=>?_
 refine k_seq (kQ (zD rfl rfl zAN (zD rfl rfl wD (zD rfl rfl zBu (zE rfl rfl rfl sh22 rfl (zp rfl ty22 rfl (List.length_map _) ?_))))))
 refine zB rfl (zC (zQ ?_))
 refine yr (fun kk s2=>(kk=3∧s2.st=[.box (Bk.cd b d),.box (tri 0 0 0),.box (tri C1 C2 C3)]∧Holds s2 [(4,.box 1 0),(5,.box 2 0),(14,.lst .ro 1 (zF b.ends)),(15,.int .i64 b.ends.length),(16,.int .i64 0)])∨(kk=2∧s2.st=[.box (Bk.cd b d),.box (tri 0 0 0),.box (tri (max 0 (C1 - o0)) C2 C3)]∧Holds s2 [(4,.box 1 0),(5,.box 2 0),(14,.lst .ro 1 (zF b.ends)),(15,.int .i64 b.ends.length),(16,.int .i64 1)])∨(kk=1∧s2.st=[.box (Bk.cd b d),.box (tri 0 0 0),.box (tri (max 0 (C1 - o0)) (max 0 (C2 - o1)) C3)]∧Holds s2 [(4,.box 1 0),(5,.box 2 0),(14,.lst .ro 1 (zF b.ends)),(15,.int .i64 b.ends.length),(16,.int .i64 2)])∨(kk=0∧s2.st=[.box (Bk.cd b d),.box (tri 0 0 0),.box (tri (max 0 (C1 - o0)) (max 0 (C2 - o1)) (max 0 (C3 - o2)))]∧Holds s2 [(4,.box 1 0),(5,.box 2 0),(14,.lst .ro 1 (zF b.ends)),(15,.int .i64 b.ends.length),(16,.int .i64 3)])) (fun kk s2 hI=>?_) 3 _ (.inl ⟨rfl,rfl,.c4 rfl rfl rfl rfl (.cons rfl (.nil rfl))⟩)
 rcases hI with ⟨hk,hst2,hs2⟩|⟨hk,hst2,hs2⟩|⟨hk,hst2,hs2⟩|⟨hk,hst2,hs2⟩
 ·refine zK _ _ hs2 hst2 fun fr2=>?_
  refine kQ (ze rfl rfl rfl (zC (k_seq (k_cT rfl (decide_eq_true (by omega)) (zU (k_seq (zQ (kQ ?_))))))))
  refine zB rfl (yG (u:=.int .i64 (o0)) rfl ty22 rfl rfl (Int.natCast_nonneg _) (by simp[ho0]) cl3 ?_)
  refine zV rfl rfl sh3 rfl ?_
  refine zA rfl (zA rfl (zC (k_region (zB rfl (zB rfl (zCX rfl ty98 rfl rfl (by omega) (by omega) cl3 ?_))))))
  refine zE rfl rfl rfl sh3 rfl (zB rfl ?_)
  refine o_sub rfl rfl rfl (by unfold I64;omega) (o_max rfl rfl rfl ?_)
  refine zCX rfl ty98 rfl rfl (by omega) (by omega) cl3 ?_
  refine wB rfl rfl sh3 rfl rfl (zC ?_)
  refine zK [(4,U.box 1 0),(5,U.box 2 0),(14,.lst .ro 1 (zF (Bk.ends b))),(15,.int .i64 ↑(List.length (Bk.ends b))),(16,.int .i64 0)] ([SB.box (Bk.cd b d),SB.box (tri (0:Int) (0:Int) (0:Int)),SB.box (List.set (tri C1 C2 C3) (0+Int.toNat (0:Int)*1) (.int .i64 (Max.max (0:Int) (C1 - o0))))]) (.c4 rfl rfl rfl rfl (.cons rfl (.nil rfl))) rfl fun fr=>?_
  refine k_region ?_
  refine yV rfl rfl rfl (by unfold I64;omega) (zB rfl (zC ?_))
  exact⟨2,by omega,.inr (.inl ⟨rfl,rfl,.c4 rfl rfl rfl rfl (.cons rfl (.nil rfl))⟩)⟩
 ·refine zK _ _ hs2 hst2 fun fr2=>?_
  refine kQ (ze rfl rfl rfl (zC (k_seq (k_cT rfl (decide_eq_true (by omega)) (zU (k_seq (zQ (kQ ?_))))))))
  refine zB rfl (yG (u:=.int .i64 (o1)) rfl ty22 rfl rfl (Int.natCast_nonneg _) (by simp[ho1]) cl3 ?_)
  refine zV rfl rfl sh3 rfl ?_
  refine zA rfl (zA rfl (zC (k_region (zB rfl (zB rfl (zCX rfl ty98 rfl rfl (by omega) (by omega) cl3 ?_))))))
  refine zE rfl rfl rfl sh3 rfl (zB rfl ?_)
  refine o_sub rfl rfl rfl (by unfold I64;omega) (o_max rfl rfl rfl ?_)
  refine zCX rfl ty98 rfl rfl (by omega) (by omega) cl3 ?_
  refine wB rfl rfl sh3 rfl rfl (zC ?_)
  refine zK [(4,U.box 1 0),(5,U.box 2 0),(14,.lst .ro 1 (zF (Bk.ends b))),(15,.int .i64 ↑(List.length (Bk.ends b))),(16,.int .i64 1)] ([SB.box (Bk.cd b d),SB.box (tri (0:Int) (0:Int) (0:Int)),SB.box (List.set (tri (Max.max (0:Int) (C1 - o0)) C2 C3) (0+Int.toNat (1:Int)*1) (.int .i64 (Max.max (0:Int) (C2 - o1))))]) (.c4 rfl rfl rfl rfl (.cons rfl (.nil rfl))) rfl fun fr=>?_
  refine k_region ?_
  refine yV rfl rfl rfl (by unfold I64;omega) (zB rfl (zC ?_))
  exact⟨1,by omega,.inr (.inr (.inl ⟨rfl,rfl,.c4 rfl rfl rfl rfl (.cons rfl (.nil rfl))⟩))⟩
 ·refine zK _ _ hs2 hst2 fun fr2=>?_
  refine kQ (ze rfl rfl rfl (zC (k_seq (k_cT rfl (decide_eq_true (by omega)) (zU (k_seq (zQ (kQ ?_))))))))
  refine zB rfl (yG (u:=.int .i64 (o2)) rfl ty22 rfl rfl (Int.natCast_nonneg _) (by simp[ho2]) cl3 ?_)
  refine zV rfl rfl sh3 rfl ?_
  refine zA rfl (zA rfl (zC (k_region (zB rfl (zB rfl (zCX rfl ty98 rfl rfl (by omega) (by omega) cl3 ?_))))))
  refine zE rfl rfl rfl sh3 rfl (zB rfl ?_)
  refine o_sub rfl rfl rfl (by unfold I64;omega) (o_max rfl rfl rfl ?_)
  refine zCX rfl ty98 rfl rfl (by omega) (by omega) cl3 ?_
  refine wB rfl rfl sh3 rfl rfl (zC ?_)
  refine zK [(4,U.box 1 0),(5,U.box 2 0),(14,.lst .ro 1 (zF (Bk.ends b))),(15,.int .i64 ↑(List.length (Bk.ends b))),(16,.int .i64 2)] ([SB.box (Bk.cd b d),SB.box (tri (0:Int) (0:Int) (0:Int)),SB.box (List.set (tri (Max.max (0:Int) (C1 - o0)) (Max.max (0:Int) (C2 - o1)) C3) (0+Int.toNat (2:Int)*1) (.int .i64 (Max.max (0:Int) (C3 - o2))))]) (.c4 rfl rfl rfl rfl (.cons rfl (.nil rfl))) rfl fun fr=>?_
  refine k_region ?_
  refine yV rfl rfl rfl (by unfold I64;omega) (zB rfl (zC ?_))
  exact⟨0,by omega,.inr (.inr (.inr ⟨rfl,rfl,.c4 rfl rfl rfl rfl (.cons rfl (.nil rfl))⟩))⟩
 ·refine zK _ _ hs2 hst2 fun fr2=>?_
  refine kQ (ze rfl rfl rfl (zC (k_seq (k_cF rfl (decide_eq_false (by omega)) (yf (kQ (zP rfl rfl rfl sh98 rfl (zd rfl rfl sh98 rfl rfl rfl rfl rfl ?_))))))))
  refine zC (zZ ?_)
  refine⟨.inr rfl,_,.cons _ _ _ _ (.cellN 4 98 _ _ _ _ rfl rfl sh98 rfl) .nil,?_⟩
  exact .refl _
theorem dec_beq(a b:Int):(a==b)=decide (a=b):=by
 by_cases h:a=b
 ·rw[decide_eq_true h];simp[h]
 ·rw[decide_eq_false h];simp[h]
theorem arr_eq(x y z:Int):binV Tryd.prog 98 .eql (valK (.agg (tri x y z))) (valK (.agg (tri 0 0 0)))=some (.bool (decide (x=0)&&(decide (y=0)&&decide (z=0)))):=by
 have h:binV Tryd.prog 98 .eql (valK (.agg (tri x y z))) (valK (.agg (tri 0 0 0)))=opt none (fun x=>some (V.bool x)) (Vam.cond (ieq x 0) (Vam.cond (ieq y 0) (Vam.cond (ieq z 0) (some true) (some false)) (some false)) (some false)):=by kernel_rfl
 rw[h]
 simp only[zDJ,dec_beq]
 cases decide (x=0)<;>cases decide (y=0)<;>cases decide (z=0)<;>rfl
theorem ret58(hi:Off is){b:Bk}(h:BOk b){d L:List Int}(hd:DOk b d)(hL:L.length≤64):RetP Tryd.prog is orc 58 [crU b d,.lst .ro 1 (zF L)] (.bool (fitB b d L)):=by
 refine yC body58 pure58 (hi 58 (by decide)) rfl rfl (yh (zBC b d 4) (zn 6 .ro (fun h=>by cases h) 1 L)) (.inl (.bool _ _)) ?_
 have q83:=ret83 (orc:=orc) hi h hd hL
 have ea:=arr_eq (dlI b d L 0) (dlI b d L 1) (dlI b d L 2)
 change _=some (V.bool (fitB b d L))at ea
 generalize fitB b d L=z at*
 generalize dlI b d L 0=D0 at*
 generalize dlI b d L 1=D1 at*
 generalize dlI b d L 2=D2 at*
 refine kQ (yH rfl rfl (zA rfl (zC ?_)))
 refine zK [(1,.lst .ro 1 (zF L)),(2,U.box 0 0)] ([SB.box (Bk.cd b d)]) (.cons rfl (.cons rfl (.nil rfl))) rfl fun fr=>?_
 refine kQ (zP rfl rfl rfl sh72 rfl (zB rfl (zN rfl (q83) (.lrefl _) (wY rfl ze98 pl98 rfl rfl ?_))))
 refine o_binK rfl rfl rfl rfl rfl ea ?_
 refine zA rfl (zC (zZ ?_))
 refine⟨.inr rfl,_,.cons _ _ _ _ (.tmp 4) .nil,?_⟩
 exact .refl _
end
end Go.Proofs.YtlknfhjfkcboiaaDoor.night
