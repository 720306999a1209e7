import Derived.Test.YtfbmlibilcjlgaaDoorVamT5
set_option linter.unusedVariables false
set_option linter.unusedSimpArgs false
set_option linter.constructorNameAsVariable false
namespace Go.Proofs.YtfbmlibilcjlgaaDoor.drumBounds
open Vam
section
variable {is:FuncId→Bool}{orc:Known}
noncomputable def b96:Code:=(Tryd.f96.body).getD .skip
theorem body96:bodyOf Tryd.prog 96=some (5,b96,[.tmp 2]):=by kernel_rfl
theorem pure96:pureFn Tryd.prog 96=true:=by kernel_rfl
noncomputable def b97:Code:=(Tryd.f97.body).getD .skip
theorem body97:bodyOf Tryd.prog 97=some (5,b97,[.tmp 2]):=by kernel_rfl
theorem pure97:pureFn Tryd.prog 97=true:=by kernel_rfl
theorem zBO:zz Tryd.prog 88 0=some (0,75):=by kernel_rfl
theorem fld88_1:zz Tryd.prog 88 1=some (11,86):=by kernel_rfl
theorem sh86:shOf Tryd.prog 86=.one:=by kernel_rfl
noncomputable def b98:Code:=(Tryd.f98.body).getD .skip
theorem body98:bodyOf Tryd.prog 98=some (39,b98,[.tmp 6]):=by kernel_rfl
theorem pure98:pureFn Tryd.prog 98=false:=by kernel_rfl
theorem pl88:zDx Tryd.prog 88=some [(0,11),(11,1),(12,1)]:=by kernel_rfl
theorem sh88:shOf Tryd.prog 88=.many 13:=by kernel_rfl
theorem ze88:yV Tryd.prog 88=some ((.cons (.int .i64 0) (.cons (.int .i64 0) (.cons .nils (.cons (.int .i64 0) (.cons (.int .i64 0) (.cons (.int .i64 0) (.cons (.int .i64 0) (.cons (.int .i64 0) (.cons (.int .i64 0) (.cons (.int .i64 0) (.cons .nils (.cons .nilf (.cons .nilf .nil))))))))))))):V):=by kernel_rfl
noncomputable def b67:Code:=(Tryd.f67.body).getD .skip
theorem body67:bodyOf Tryd.prog 67=some (5,b67,[.cell 2 88]):=by kernel_rfl
theorem pure67:pureFn Tryd.prog 67=false:=by kernel_rfl
theorem ret96(hi:Off is)(a b:Int):RetP Tryd.prog is orc 96 [wB a b] (.int .i64 a):=by
 refine zk body96 pure96 (hi 96 (by decide)) rfl rfl (zAH (yq a b 6)) (.inl (.int _ _ _)) ?_
 refine kQ (zc rfl rfl (zB rfl (zA ?_)))
 refine zH [(1,U.box 0 0)] ([SB.box [.int .i64 a,.int .i64 b]]) (.cons rfl (.nil rfl)) rfl fun fr=>?_
 refine kQ (zE rfl rfl wd (zF rfl rfl rfl sh3 rfl (zB rfl (zA (zU ?_)))))
 refine⟨.inr rfl,_,.cons _ _ _ _ (.tmp 2) .nil,?_⟩
 exact .refl _
theorem ret97(hi:Off is)(a b:Int):RetP Tryd.prog is orc 97 [wB a b] (.int .i64 b):=by
 refine zk body97 pure97 (hi 97 (by decide)) rfl rfl (zAH (yq a b 6)) (.inl (.int _ _ _)) ?_
 refine kQ (zc rfl rfl (zB rfl (zA ?_)))
 refine zH [(1,U.box 0 0)] ([SB.box [.int .i64 a,.int .i64 b]]) (.cons rfl (.nil rfl)) rfl fun fr=>?_
 refine kQ (zE rfl rfl wc (zF rfl rfl rfl sh3 rfl (zB rfl (zA (zU ?_)))))
 refine⟨.inr rfl,_,.cons _ _ _ _ (.tmp 2) .nil,?_⟩
 exact .refl _
def endI(w:Bool)(q:Two):Int:=if w=true then q.b else q.a
def fnE(w:Bool):Nat:=if w=true then 97 else 96
theorem retE(hi:Off is)(w:Bool)(q:Two):RetP Tryd.prog is orc (fnE w) [wB q.a q.b] (.int .i64 (endI w q)):=by
 cases w
 ·exact ret96 hi q.a q.b
 ·exact ret97 hi q.a q.b
abbrev truC(b:Bk)(f g:Nat):List U:=[.int .i64 b.parts,.int .i64 b.size,.lst .ro 1 (zG b.beats),.int .i64 b.start,.int .i64 b.fin,.int .i64 b.tlo,.int .i64 b.thi,.int .i64 b.slo,.int .i64 b.shi,.int .i64 b.notice,.lst .ro 3 (plsU b.players),.fn f [] [],.fn g [] []]
abbrev truU(b:Bk)(f g:Nat):U:=.agg (truC b f g)
theorem nb_tru(b:Bk)(f g:Nat):NB (truU b f g):=by
 refine NB.agg fun c hc=>?_
 rcases List.mem_append.1 (show c∈b.cs++[.fn f [] [],.fn g [] []]from hc)with h1|h1
 ·cases yK b 4 with
  |agg _ _ h=>exact(h c h1).nb
 ·simp only[List.mem_cons,List.not_mem_nil,or_false]at h1
  rcases h1 with rfl|rfl
  ·exact nb_fn0 _
  ·exact nb_fn0 _
theorem no_agg(l:List U):NoOwn (.agg l):=NoOwn.of fun z es h=>by cases h
theorem no_int(n:Int):NoOwn (.int .i64 n):=NoOwn.of fun z es h=>by cases h
theorem no_ro(n:Nat)(l:List U):NoOwn (.lst .ro n l):=NoOwn.of fun z es h=>by cases h
def zAs(b:Bk)(w:Bool)(L:List Int)(n:Nat):Int:=
 if n / b.size.toNat=0∨n % b.size.toNat≠0∨L[n / b.size.toNat]? =L[n / b.size.toNat - 1]? then 0 else endI w ⟨b.slo,b.shi⟩
theorem div_n{b:Bk}(h:BOk b)(n:Nat):Int.tdiv n b.size=((n / b.size.toNat:Nat):Int)∧Int.tmod n b.size=((n % b.size.toNat:Nat):Int):=by
 have hs:=h.sz
 obtain⟨s,e⟩:∃s:Nat,b.size=s:=⟨b.size.toNat,by omega⟩
 rw[e,Int.toNat_natCast]
 exact⟨rfl,rfl⟩
theorem part_lt{b:Bk}(h:BOk b){n:Nat}(hn:(n:Int)<b.parts*b.size):((n / b.size.toNat:Nat):Int)<b.parts:=by
 have hs:=h.sz
 have hp:=h.pa
 obtain⟨s,e⟩:∃s:Nat,b.size=s:=⟨b.size.toNat,by omega⟩
 obtain⟨p,e2⟩:∃p:Nat,b.parts=p:=⟨b.parts.toNat,by omega⟩
 rw[e,e2]at hn
 rw[e,e2,Int.toNat_natCast]
 have:n<p*s:=by exact_mod_cast hn
 have:=Nat.div_lt_of_lt_mul (show n<s*p by rw[Nat.mul_comm];exact this)
 exact_mod_cast this
theorem at_ok{b:Bk}{L:List Int}(h:POk b L){q:Nat}(hq:(q:Int)<b.parts):∃x,L[q]? =some x∧0≤x∧x≤3:=by
 have hl:=h.len
 refine⟨L[q]'(by omega),List.getElem?_eq_getElem (by omega),h.rg _ (List.getElem_mem _)⟩
set_option maxHeartbeats 8000000 in
theorem ret98(hi:Off is){b:Bk}{L:List Int}(hb:BOk b)(h:POk b L)(w v:Bool){n:Nat}(hn:(n:Int)<b.parts*b.size):RetP Tryd.prog is orc 98 [truU b (fnE w) (fnE v),.lst .ro 1 (zG L),.int .i64 n] (.int .i64 (zAs b w L n)):=by
 refine wQ body98 pure98 rfl rfl (fun u hu=>?_) (NB.int _ _) ?_
 ·simp only[List.mem_cons,List.not_mem_nil,or_false]at hu
  rcases hu with rfl|rfl|rfl
  ·exact⟨nb_tru _ _ _,no_agg _⟩
  ·exact⟨(zr 6 .ro (fun h=>by cases h) 1 L).nb,no_ro _ _⟩
  ·exact⟨NB.int _ _,no_int _⟩
 have hs:=hb.sz
 have hp:=hb.pa
 have hl:=h.len
 obtain⟨d1,d2⟩:=div_n hb n
 have hq:=part_lt hb hn
 unfold zAs
 generalize n / b.size.toNat=q at*
 generalize n % b.size.toNat=r at*
 by_cases c1:q=0
 ·rw[if_pos (.inl c1)]
  refine kQ (zc rfl rfl (zB rfl (zA ?_)))
  refine zH [(1,.lst .ro 1 (zG L)),(2,.int .i64 ↑n),(3,U.box 0 0)] ([SB.box [.int .i64 (Bk.parts b),.int .i64 (Bk.size b),.lst .ro 1 (zG (Bk.beats b)),.int .i64 (Bk.start b),.int .i64 (Bk.fin b),.int .i64 (Bk.tlo b),.int .i64 (Bk.thi b),.int .i64 (Bk.slo b),.int .i64 (Bk.shi b),.int .i64 (Bk.notice b),.lst .ro 3 (plsU (Bk.players b)),U.fn (fnE w) [] [],U.fn (fnE v) [] []]]) (.cons rfl (.cons rfl (.cons rfl (.nil rfl)))) rfl fun fr=>?_
  refine kQ (zC rfl (zE rfl rfl zBO (zE rfl rfl yB (zE rfl rfl yZ (zF rfl rfl rfl sh3 rfl ?_)))))
  refine o_quo rfl rfl rfl (by omega) (by unfold I64;omega) ?_
  refine zB rfl (zA (k_seq (kQ (zC rfl (zAt rfl rfl rfl (zC rfl (o_gS rfl rfl rfl rfl (decide_eq_true (by omega)) (o_gS rfl rfl rfl rfl (decide_eq_true (by omega)) ?_))))))))
  refine o_gS rfl rfl rfl rfl (decide_eq_true (by omega)) (o_gS rfl rfl rfl rfl (decide_eq_true (by omega)) (o_gS rfl rfl rfl rfl (decide_eq_true (by omega)) (o_gS rfl rfl rfl rfl (decide_eq_true (by omega)) ?_)))
  refine zV [(1,.lst .ro 1 (zG L)),(3,U.box 0 0),(7,.int .i64 (Int.tdiv (↑n) (Bk.size b))),(16,U.bool (decide (Int.tdiv (↑n) (Bk.size b)=(0:Int)))),(22,U.tup [])] [] ([SB.box [.int .i64 (Bk.parts b),.int .i64 (Bk.size b),.lst .ro 1 (zG (Bk.beats b)),.int .i64 (Bk.start b),.int .i64 (Bk.fin b),.int .i64 (Bk.tlo b),.int .i64 (Bk.thi b),.int .i64 (Bk.slo b),.int .i64 (Bk.shi b),.int .i64 (Bk.notice b),.lst .ro 3 (plsU (Bk.players b)),U.fn (fnE w) [] [],U.fn (fnE v) [] []]]) (.c4 rfl rfl rfl rfl (.cons rfl (.nil rfl))) rfl rfl fun fr=>?_
  refine o_gS rfl rfl rfl rfl (decide_eq_true (by omega)) (za rfl rfl (decide_eq_true (by omega)) ?_)
  refine zC rfl (o_gS rfl rfl rfl rfl rfl (o_gS rfl rfl rfl rfl rfl (o_gS rfl rfl rfl rfl rfl (o_gS rfl rfl rfl rfl rfl (o_gS rfl rfl rfl rfl rfl (za rfl rfl rfl ?_))))))
  refine zA ?_
  refine zH [(3,U.box 0 0),(31,.bool true)] ([SB.box [.int .i64 (Bk.parts b),.int .i64 (Bk.size b),.lst .ro 1 (zG (Bk.beats b)),.int .i64 (Bk.start b),.int .i64 (Bk.fin b),.int .i64 (Bk.tlo b),.int .i64 (Bk.thi b),.int .i64 (Bk.slo b),.int .i64 (Bk.shi b),.int .i64 (Bk.notice b),.lst .ro 3 (plsU (Bk.players b)),U.fn (fnE w) [] [],U.fn (fnE v) [] []]]) (.cons rfl (.cons rfl (.nil rfl))) rfl fun fr=>?_
  refine k_cT rfl rfl ?_
  refine kQ (zB rfl (zA (zU ?_)))
  refine⟨.inr rfl,_,.cons _ _ _ _ (.tmp 6) .nil,?_⟩
  exact .refl _
 by_cases c2:r≠0
 ·rw[if_pos (.inr (.inl c2))]
  refine kQ (zc rfl rfl (zB rfl (zA ?_)))
  refine zH [(1,.lst .ro 1 (zG L)),(2,.int .i64 ↑n),(3,U.box 0 0)] ([SB.box [.int .i64 (Bk.parts b),.int .i64 (Bk.size b),.lst .ro 1 (zG (Bk.beats b)),.int .i64 (Bk.start b),.int .i64 (Bk.fin b),.int .i64 (Bk.tlo b),.int .i64 (Bk.thi b),.int .i64 (Bk.slo b),.int .i64 (Bk.shi b),.int .i64 (Bk.notice b),.lst .ro 3 (plsU (Bk.players b)),U.fn (fnE w) [] [],U.fn (fnE v) [] []]]) (.cons rfl (.cons rfl (.cons rfl (.nil rfl)))) rfl fun fr=>?_
  refine kQ (zC rfl (zE rfl rfl zBO (zE rfl rfl yB (zE rfl rfl yZ (zF rfl rfl rfl sh3 rfl ?_)))))
  refine o_quo rfl rfl rfl (by omega) (by unfold I64;omega) ?_
  refine zB rfl (zA (k_seq (kQ (zC rfl (zAt rfl rfl rfl (zC rfl (o_gD rfl rfl rfl rfl (decide_eq_false (by omega)) (zC rfl ?_))))))))
  refine o_gD rfl rfl rfl rfl (decide_eq_false (by omega)) (zE rfl rfl zBO (o_gD rfl rfl rfl rfl (decide_eq_false (by omega)) (zE rfl rfl yB (o_gD rfl rfl rfl rfl (decide_eq_false (by omega)) (zE rfl rfl yZ (o_gD rfl rfl rfl rfl (decide_eq_false (by omega)) (zF rfl rfl rfl sh3 rfl (o_gD rfl rfl rfl rfl (decide_eq_false (by omega)) ?_))))))))
  refine o_rem rfl rfl rfl (by omega) ?_
  refine zV [(1,.lst .ro 1 (zG L)),(3,U.box 0 0),(7,.int .i64 (Int.tdiv (↑n) (Bk.size b))),(16,U.bool (decide (Int.tdiv (↑n) (Bk.size b)=(0:Int)))),(22,.int .i64 (Int.tmod (↑n) (Bk.size b)))] [] ([SB.box [.int .i64 (Bk.parts b),.int .i64 (Bk.size b),.lst .ro 1 (zG (Bk.beats b)),.int .i64 (Bk.start b),.int .i64 (Bk.fin b),.int .i64 (Bk.tlo b),.int .i64 (Bk.thi b),.int .i64 (Bk.slo b),.int .i64 (Bk.shi b),.int .i64 (Bk.notice b),.lst .ro 3 (plsU (Bk.players b)),U.fn (fnE w) [] [],U.fn (fnE v) [] []]]) (.c4 rfl rfl rfl rfl (.cons rfl (.nil rfl))) rfl rfl fun fr=>?_
  refine o_gD rfl rfl rfl rfl (decide_eq_false (by omega)) ?_
  refine zV [(1,.lst .ro 1 (zG L)),(3,U.box 0 0),(7,.int .i64 (Int.tdiv (↑n) (Bk.size b))),(16,U.bool (decide (Int.tdiv (↑n) (Bk.size b)=(0:Int)))),(22,.int .i64 (Int.tmod (↑n) (Bk.size b)))] [] ([SB.box [.int .i64 (Bk.parts b),.int .i64 (Bk.size b),.lst .ro 1 (zG (Bk.beats b)),.int .i64 (Bk.start b),.int .i64 (Bk.fin b),.int .i64 (Bk.tlo b),.int .i64 (Bk.thi b),.int .i64 (Bk.slo b),.int .i64 (Bk.shi b),.int .i64 (Bk.notice b),.lst .ro 3 (plsU (Bk.players b)),U.fn (fnE w) [] [],U.fn (fnE v) [] []]]) (.c4 rfl rfl rfl rfl (.cons rfl (.nil rfl))) rfl rfl fun fr=>?_
  refine wC rfl rfl rfl (zN rfl rfl (decide_eq_false (by omega)) ?_)
  refine zC rfl (o_gS rfl rfl rfl rfl (decide_eq_true (by omega)) (o_gS rfl rfl rfl rfl (decide_eq_true (by omega)) (o_gS rfl rfl rfl rfl (decide_eq_true (by omega)) (o_gS rfl rfl rfl rfl (decide_eq_true (by omega)) (o_gS rfl rfl rfl rfl (decide_eq_true (by omega)) (za rfl rfl (decide_eq_true (by omega)) ?_))))))
  refine zA ?_
  refine zH [(3,U.box 0 0),(31,.bool true)] ([SB.box [.int .i64 (Bk.parts b),.int .i64 (Bk.size b),.lst .ro 1 (zG (Bk.beats b)),.int .i64 (Bk.start b),.int .i64 (Bk.fin b),.int .i64 (Bk.tlo b),.int .i64 (Bk.thi b),.int .i64 (Bk.slo b),.int .i64 (Bk.shi b),.int .i64 (Bk.notice b),.lst .ro 3 (plsU (Bk.players b)),U.fn (fnE w) [] [],U.fn (fnE v) [] []]]) (.cons rfl (.cons rfl (.nil rfl))) rfl fun fr=>?_
  refine k_cT rfl rfl ?_
  refine kQ (zB rfl (zA (zU ?_)))
  refine⟨.inr rfl,_,.cons _ _ _ _ (.tmp 6) .nil,?_⟩
  exact .refl _
 obtain⟨y,hy,_⟩:=at_ok h hq
 obtain⟨x,hx,_⟩:=at_ok h (show((q - 1:Nat):Int)<b.parts by omega)
 have q118:RetP Tryd.prog is orc 118 [.lst .ro 1 (zG L),.int .i64 (Int.tdiv (n:Int) b.size - 1)] (wB x y):=by
  rw[d1,show(q:Int) - 1=((q - 1:Nat):Int) by omega]
  exact ret118 hi hx (by rw[show q - 1+1=q by omega];exact hy) (by omega)
 have q119:=ret119 (orc:=orc) hi x y
 have qE:=retE (orc:=orc) hi w ⟨b.slo,b.shi⟩
 rw[hx,hy]
 by_cases c3:y=x
 ·rw[if_pos (.inr (.inr (by rw[c3])))]
  rw[decide_eq_true c3]at q119
  refine kQ (zc rfl rfl (zB rfl (zA ?_)))
  refine zH [(1,.lst .ro 1 (zG L)),(2,.int .i64 ↑n),(3,U.box 0 0)] ([SB.box [.int .i64 (Bk.parts b),.int .i64 (Bk.size b),.lst .ro 1 (zG (Bk.beats b)),.int .i64 (Bk.start b),.int .i64 (Bk.fin b),.int .i64 (Bk.tlo b),.int .i64 (Bk.thi b),.int .i64 (Bk.slo b),.int .i64 (Bk.shi b),.int .i64 (Bk.notice b),.lst .ro 3 (plsU (Bk.players b)),U.fn (fnE w) [] [],U.fn (fnE v) [] []]]) (.cons rfl (.cons rfl (.cons rfl (.nil rfl)))) rfl fun fr=>?_
  refine kQ (zC rfl (zE rfl rfl zBO (zE rfl rfl yB (zE rfl rfl yZ (zF rfl rfl rfl sh3 rfl ?_)))))
  refine o_quo rfl rfl rfl (by omega) (by unfold I64;omega) ?_
  refine zB rfl (zA (k_seq (kQ (zC rfl (zAt rfl rfl rfl (zC rfl (o_gD rfl rfl rfl rfl (decide_eq_false (by omega)) (zC rfl ?_))))))))
  refine o_gD rfl rfl rfl rfl (decide_eq_false (by omega)) (zE rfl rfl zBO (o_gD rfl rfl rfl rfl (decide_eq_false (by omega)) (zE rfl rfl yB (o_gD rfl rfl rfl rfl (decide_eq_false (by omega)) (zE rfl rfl yZ (o_gD rfl rfl rfl rfl (decide_eq_false (by omega)) (zF rfl rfl rfl sh3 rfl (o_gD rfl rfl rfl rfl (decide_eq_false (by omega)) ?_))))))))
  refine o_rem rfl rfl rfl (by omega) ?_
  refine zV [(1,.lst .ro 1 (zG L)),(3,U.box 0 0),(7,.int .i64 (Int.tdiv (↑n) (Bk.size b))),(16,U.bool (decide (Int.tdiv (↑n) (Bk.size b)=(0:Int)))),(22,.int .i64 (Int.tmod (↑n) (Bk.size b)))] [] ([SB.box [.int .i64 (Bk.parts b),.int .i64 (Bk.size b),.lst .ro 1 (zG (Bk.beats b)),.int .i64 (Bk.start b),.int .i64 (Bk.fin b),.int .i64 (Bk.tlo b),.int .i64 (Bk.thi b),.int .i64 (Bk.slo b),.int .i64 (Bk.shi b),.int .i64 (Bk.notice b),.lst .ro 3 (plsU (Bk.players b)),U.fn (fnE w) [] [],U.fn (fnE v) [] []]]) (.c4 rfl rfl rfl rfl (.cons rfl (.nil rfl))) rfl rfl fun fr=>?_
  refine o_gD rfl rfl rfl rfl (decide_eq_false (by omega)) ?_
  refine zV [(1,.lst .ro 1 (zG L)),(3,U.box 0 0),(7,.int .i64 (Int.tdiv (↑n) (Bk.size b))),(16,U.bool (decide (Int.tdiv (↑n) (Bk.size b)=(0:Int)))),(22,.int .i64 (Int.tmod (↑n) (Bk.size b)))] [] ([SB.box [.int .i64 (Bk.parts b),.int .i64 (Bk.size b),.lst .ro 1 (zG (Bk.beats b)),.int .i64 (Bk.start b),.int .i64 (Bk.fin b),.int .i64 (Bk.tlo b),.int .i64 (Bk.thi b),.int .i64 (Bk.slo b),.int .i64 (Bk.shi b),.int .i64 (Bk.notice b),.lst .ro 3 (plsU (Bk.players b)),U.fn (fnE w) [] [],U.fn (fnE v) [] []]]) (.c4 rfl rfl rfl rfl (.cons rfl (.nil rfl))) rfl rfl fun fr=>?_
  refine wC rfl rfl rfl (zN rfl rfl (decide_eq_false (by omega)) ?_)
  refine zC rfl (o_gD rfl rfl rfl rfl (decide_eq_false (by omega)) (zC rfl (o_gD rfl rfl rfl rfl (decide_eq_false (by omega)) (zC rfl (o_gD rfl rfl rfl rfl (decide_eq_false (by omega)) ?_)))))
  refine yn rfl rfl rfl (by unfold I64;omega) (o_gD rfl rfl rfl rfl (decide_eq_false (by omega)) (zP rfl (q118) (.lrefl _) (o_gD rfl rfl rfl rfl (decide_eq_false (by omega)) (zP rfl (q119) (.lrefl _) (zN rfl rfl (decide_eq_false (by omega)) ?_)))))
  refine zA ?_
  refine zH [(3,U.box 0 0),(31,.bool true)] ([SB.box [.int .i64 (Bk.parts b),.int .i64 (Bk.size b),.lst .ro 1 (zG (Bk.beats b)),.int .i64 (Bk.start b),.int .i64 (Bk.fin b),.int .i64 (Bk.tlo b),.int .i64 (Bk.thi b),.int .i64 (Bk.slo b),.int .i64 (Bk.shi b),.int .i64 (Bk.notice b),.lst .ro 3 (plsU (Bk.players b)),U.fn (fnE w) [] [],U.fn (fnE v) [] []]]) (.cons rfl (.cons rfl (.nil rfl))) rfl fun fr=>?_
  refine k_cT rfl rfl ?_
  refine kQ (zB rfl (zA (zU ?_)))
  refine⟨.inr rfl,_,.cons _ _ _ _ (.tmp 6) .nil,?_⟩
  exact .refl _
 ·rw[if_neg (by rintro(e|e|e);exact c1 e;exact c2 e;exact c3 (Option.some.inj e))]
  rw[decide_eq_false c3]at q119
  refine kQ (zc rfl rfl (zB rfl (zA ?_)))
  refine zH [(1,.lst .ro 1 (zG L)),(2,.int .i64 ↑n),(3,U.box 0 0)] ([SB.box [.int .i64 (Bk.parts b),.int .i64 (Bk.size b),.lst .ro 1 (zG (Bk.beats b)),.int .i64 (Bk.start b),.int .i64 (Bk.fin b),.int .i64 (Bk.tlo b),.int .i64 (Bk.thi b),.int .i64 (Bk.slo b),.int .i64 (Bk.shi b),.int .i64 (Bk.notice b),.lst .ro 3 (plsU (Bk.players b)),U.fn (fnE w) [] [],U.fn (fnE v) [] []]]) (.cons rfl (.cons rfl (.cons rfl (.nil rfl)))) rfl fun fr=>?_
  refine kQ (zC rfl (zE rfl rfl zBO (zE rfl rfl yB (zE rfl rfl yZ (zF rfl rfl rfl sh3 rfl ?_)))))
  refine o_quo rfl rfl rfl (by omega) (by unfold I64;omega) ?_
  refine zB rfl (zA (k_seq (kQ (zC rfl (zAt rfl rfl rfl (zC rfl (o_gD rfl rfl rfl rfl (decide_eq_false (by omega)) (zC rfl ?_))))))))
  refine o_gD rfl rfl rfl rfl (decide_eq_false (by omega)) (zE rfl rfl zBO (o_gD rfl rfl rfl rfl (decide_eq_false (by omega)) (zE rfl rfl yB (o_gD rfl rfl rfl rfl (decide_eq_false (by omega)) (zE rfl rfl yZ (o_gD rfl rfl rfl rfl (decide_eq_false (by omega)) (zF rfl rfl rfl sh3 rfl (o_gD rfl rfl rfl rfl (decide_eq_false (by omega)) ?_))))))))
  refine o_rem rfl rfl rfl (by omega) ?_
  refine zV [(1,.lst .ro 1 (zG L)),(3,U.box 0 0),(7,.int .i64 (Int.tdiv (↑n) (Bk.size b))),(16,U.bool (decide (Int.tdiv (↑n) (Bk.size b)=(0:Int)))),(22,.int .i64 (Int.tmod (↑n) (Bk.size b)))] [] ([SB.box [.int .i64 (Bk.parts b),.int .i64 (Bk.size b),.lst .ro 1 (zG (Bk.beats b)),.int .i64 (Bk.start b),.int .i64 (Bk.fin b),.int .i64 (Bk.tlo b),.int .i64 (Bk.thi b),.int .i64 (Bk.slo b),.int .i64 (Bk.shi b),.int .i64 (Bk.notice b),.lst .ro 3 (plsU (Bk.players b)),U.fn (fnE w) [] [],U.fn (fnE v) [] []]]) (.c4 rfl rfl rfl rfl (.cons rfl (.nil rfl))) rfl rfl fun fr=>?_
  refine o_gD rfl rfl rfl rfl (decide_eq_false (by omega)) ?_
  refine zV [(1,.lst .ro 1 (zG L)),(3,U.box 0 0),(7,.int .i64 (Int.tdiv (↑n) (Bk.size b))),(16,U.bool (decide (Int.tdiv (↑n) (Bk.size b)=(0:Int)))),(22,.int .i64 (Int.tmod (↑n) (Bk.size b)))] [] ([SB.box [.int .i64 (Bk.parts b),.int .i64 (Bk.size b),.lst .ro 1 (zG (Bk.beats b)),.int .i64 (Bk.start b),.int .i64 (Bk.fin b),.int .i64 (Bk.tlo b),.int .i64 (Bk.thi b),.int .i64 (Bk.slo b),.int .i64 (Bk.shi b),.int .i64 (Bk.notice b),.lst .ro 3 (plsU (Bk.players b)),U.fn (fnE w) [] [],U.fn (fnE v) [] []]]) (.c4 rfl rfl rfl rfl (.cons rfl (.nil rfl))) rfl rfl fun fr=>?_
  refine wC rfl rfl rfl (zN rfl rfl (decide_eq_false (by omega)) ?_)
  refine zC rfl (o_gD rfl rfl rfl rfl (decide_eq_false (by omega)) (zC rfl (o_gD rfl rfl rfl rfl (decide_eq_false (by omega)) (zC rfl (o_gD rfl rfl rfl rfl (decide_eq_false (by omega)) ?_)))))
  refine yn rfl rfl rfl (by unfold I64;omega) (o_gD rfl rfl rfl rfl (decide_eq_false (by omega)) (zP rfl (q118) (.lrefl _) (o_gD rfl rfl rfl rfl (decide_eq_false (by omega)) (zP rfl (q119) (.lrefl _) (zN rfl rfl (decide_eq_false (by omega)) ?_)))))
  refine zA ?_
  refine zH [(3,U.box 0 0),(31,.bool false)] ([SB.box [.int .i64 (Bk.parts b),.int .i64 (Bk.size b),.lst .ro 1 (zG (Bk.beats b)),.int .i64 (Bk.start b),.int .i64 (Bk.fin b),.int .i64 (Bk.tlo b),.int .i64 (Bk.thi b),.int .i64 (Bk.slo b),.int .i64 (Bk.shi b),.int .i64 (Bk.notice b),.lst .ro 3 (plsU (Bk.players b)),U.fn (fnE w) [] [],U.fn (fnE v) [] []]]) (.cons rfl (.cons rfl (.nil rfl))) rfl fun fr=>?_
  refine k_cF rfl rfl ?_
  refine zQ (kQ (zE rfl rfl fld88_1 (zF rfl rfl rfl sh86 rfl (zE rfl rfl zBO (zE rfl rfl yB (zE rfl rfl zGZ (zJ rfl rfl rfl sh24 rfl (ye rfl rfl qE (.lrefl _) ?_))))))))
  refine zB rfl (zA (zU ?_))
  refine⟨.inr rfl,_,.cons _ _ _ _ (.tmp 6) .nil,?_⟩
  exact .refl _
end
section
variable {is:FuncId→Bool}{orc:Known}
theorem fld88_2:zz Tryd.prog 88 2=some (12,86):=by kernel_rfl
theorem sh85:shOf Tryd.prog 85=.many 5:=by kernel_rfl
theorem ty85:tyOf Tryd.prog 85=.array 5 3:=by kernel_rfl
theorem ze85:yV Tryd.prog 85=some ((.cons (.int .i64 0) (.cons (.int .i64 0) (.cons (.int .i64 0) (.cons (.int .i64 0) (.cons (.int .i64 0) .nil))))):V):=by kernel_rfl
noncomputable def b66:Code:=(Tryd.f66.body).getD .skip
theorem body66:bodyOf Tryd.prog 66=some (81,b66,[.cell 6 85]):=by kernel_rfl
theorem pure66:pureFn Tryd.prog 66=false:=by kernel_rfl
theorem nbo_bk(b:Bk):NB b.u∧NoOwn b.u:=⟨(yK b 4).nb,no_agg _⟩
theorem ret67(hi:Off is)(b:Bk):RetP Tryd.prog is orc 67 [b.u] (truU b 97 96):=by
 refine wQ body67 pure67 rfl rfl (fun u hu=>?_) (nb_tru _ _ _) ?_
 ·rcases List.mem_singleton.1 hu with rfl;exact nbo_bk b
 refine kQ (zc rfl rfl (zi rfl ze88 ?_))
 refine zA ?_
 refine zH [(1,U.box 0 0),(2,U.box 1 0)] ([SB.box (Bk.cs b),SB.box [.int .i64 0,.int .i64 0,.lst .full 0 [],.int .i64 0,.int .i64 0,.int .i64 0,.int .i64 0,.int .i64 0,.int .i64 0,.int .i64 0,.lst .full 0 [],U.nilf,U.nilf]]) (.cons rfl (.cons rfl (.nil rfl))) rfl fun fr=>?_
 refine kQ (zJ rfl rfl rfl sh75 rfl (yp rfl ze88 pl88 rfl rfl ?_))
 refine zZ rfl rfl sh88 rfl rfl rfl rfl rfl ?_
 refine zA (zU ?_)
 refine⟨.inr rfl,_,.cons _ _ _ _ (.cellN 2 88 _ _ _ _ rfl rfl sh88 rfl) .nil,?_⟩
 exact .refl _
def catI(w:Bool)(p:Pl)(x:Int):Int:=endI w ((p.cat[x.toNat]?).getD ⟨0,0⟩)
def aftI(b:Bk)(w:Bool)(L:List Int)(p:Pl):Nat→Int
 |0=>endI w ⟨p.la,p.lb⟩
 |n+1=>max 0 (aftI b w L p n+zAs b w L n - catI (!w) p ((L[n / b.size.toNat]?).getD 0))
def aftF(b:Bk)(w:Bool)(L:List Int)(n j:Nat):Int:=match b.players[j]? with|some p=>aftI b w L p n|none=>0
abbrev arrU(f:Nat→Int):List U:=(List.range 5).map fun j=>.int .i64 (f j)
theorem arr_at(f:Nat→Int){i:Nat}(h:i<5):(arrU f)[i]? =some (.int .i64 (f i)):=by simp[arrU,h]
def mixF(f g:Nat→Int)(i j:Nat):Int:=if j<i then g j else f j
theorem mix_z(f g:Nat→Int):mixF f g 0=f:=by funext j;simp[mixF]
theorem arr_set(f g:Nat→Int){i:Nat}(h:i<5):(arrU (mixF f g i)).set i (.int .i64 (g i))=arrU (mixF f g (i+1)):=by
 refine List.ext_getElem? fun j=>?_
 rw[List.getElem?_set]
 by_cases e:i=j
 ·subst e
  rw[if_pos rfl,arr_at _ h]
  simp[arrU,h,mixF]
 ·rw[if_neg e]
  by_cases hj:j<5
  ·rw[arr_at _ hj,arr_at _ hj]
   unfold mixF
   by_cases h1:j<i
   ·rw[if_pos h1,if_pos (by omega)]
   ·rw[if_neg h1,if_neg (by omega)]
  ·simp[arrU,hj]
theorem pl_ok{b:Bk}(hb:BOk b){i:Nat}{p:Pl}(h:b.players[i]? =some p):(0≤p.la∧p.la≤p.lb∧p.lb≤500)∧p.cat.length=4∧∀c∈p.cat,0≤c.a∧c.a≤c.b∧c.b≤100:=hb.pl p (List.mem_of_getElem? h)
theorem cat_ok{p:Pl}(h:p.cat.length=4∧∀c∈p.cat,0≤c.a∧c.a≤c.b∧c.b≤100){x:Int}(hx:0≤x∧x≤3)(w:Bool):∃c,p.cat[x.toNat]? =some c∧catI w p x=endI w c∧0≤endI w c∧endI w c≤100:=by
 refine⟨p.cat[x.toNat]'(by omega),List.getElem?_eq_getElem (by omega),?_,?_⟩
 ·unfold catI;rw[List.getElem?_eq_getElem (by omega)];rfl
 ·have:=h.2 _ (List.getElem_mem (show x.toNat<p.cat.length by omega))
  unfold endI;split<;>omega
theorem slip_b{b:Bk}(hb:BOk b)(w:Bool)(L:List Int)(n:Nat):0≤zAs b w L n∧zAs b w L n≤100:=by
 have:=hb.sl
 unfold zAs
 split
 ·omega
 ·unfold endI;split<;>(simp only;omega)
theorem aft_b{b:Bk}(hb:BOk b)(w:Bool)(L:List Int)(hL:∀x∈L,0≤x∧x≤3){p:Pl}(hp:(0≤p.la∧p.la≤p.lb∧p.lb≤500)∧p.cat.length=4∧∀c∈p.cat,0≤c.a∧c.a≤c.b∧c.b≤100)(n:Nat):0≤aftI b w L p n∧aftI b w L p n≤500+100*n:=by
 induction n with
 |zero=>show 0≤endI w _∧endI w _≤_;unfold endI;split<;>(simp only;omega)
 |succ n ih=>
  have e:aftI b w L p (n+1)=max 0 (aftI b w L p n+zAs b w L n - catI (!w) p ((L[n / b.size.toNat]?).getD 0)):=rfl
  have hs:=slip_b hb w L n
  have hx:0≤(L[n / b.size.toNat]?).getD 0∧(L[n / b.size.toNat]?).getD 0≤3:=by
   cases hq:L[n / b.size.toNat]? with
   |none=>exact⟨Int.le_refl _,by decide⟩
   |some q=>exact hL q (List.mem_of_getElem? hq)
  obtain⟨c,h1,h2,h3,h4⟩:=cat_ok hp.2 hx (!w)
  rw[e,h2];omega
end
section
variable {is:FuncId→Bool}{orc:Known}
set_option maxHeartbeats 16000000 in
theorem ret66(hi:Off is){b:Bk}{L:List Int}(hb:BOk b)(h:POk b L)(w v:Bool)(hv:v= !w){m:Nat}(hm:(m:Int)≤b.parts*b.size):RetP Tryd.prog is orc 66 [truU b (fnE w) (fnE v),.lst .ro 1 (zG L),.int .i64 m] (.agg (arrU (aftF b w L m))):=by
 refine wQ body66 pure66 rfl rfl (fun u hu=>?_) (NB.agg fun c hc=>?_) ?_
 ·simp only[List.mem_cons,List.not_mem_nil,or_false]at hu
  rcases hu with rfl|rfl|rfl
  ·exact⟨nb_tru _ _ _,no_agg _⟩
  ·exact⟨(zr 6 .ro (fun h=>by cases h) 1 L).nb,no_ro _ _⟩
  ·exact⟨NB.int _ _,no_int _⟩
 ·obtain⟨j,_,rfl⟩:=List.mem_map.1 hc
  exact NB.int _ _
 have hs:=hb.sz
 have hp:=hb.pa
 have hl:=h.len
 have hpn:=hb.pn
 have hm128:m≤128:=by
  have:b.parts*b.size≤8*16:=Int.mul_le_mul hp.2 hs.2 (by omega) (by omega)
  omega
 refine kQ (zc rfl rfl (zi rfl ze85 ?_))
 refine zA ?_
 refine zH [(1,.lst .ro 1 (zG L)),(2,.int .i64 ↑m),(3,U.box 0 0),(6,U.box 1 0)] ([SB.box [.int .i64 (Bk.parts b),.int .i64 (Bk.size b),.lst .ro 1 (zG (Bk.beats b)),.int .i64 (Bk.start b),.int .i64 (Bk.fin b),.int .i64 (Bk.tlo b),.int .i64 (Bk.thi b),.int .i64 (Bk.slo b),.int .i64 (Bk.shi b),.int .i64 (Bk.notice b),.lst .ro 3 (plsU (Bk.players b)),U.fn (fnE w) [] [],U.fn (fnE v) [] []],SB.box [.int .i64 0,.int .i64 0,.int .i64 0,.int .i64 0,.int .i64 0]]) (.c4 rfl rfl rfl rfl (.nil rfl)) rfl fun fr=>?_
 refine kQ (zi rfl ze85 ?_)
 refine zA ?_
 refine zH [(1,.lst .ro 1 (zG L)),(2,.int .i64 ↑m),(3,U.box 0 0),(6,U.box 1 0),(7,U.box 2 0)] ([SB.box [.int .i64 (Bk.parts b),.int .i64 (Bk.size b),.lst .ro 1 (zG (Bk.beats b)),.int .i64 (Bk.start b),.int .i64 (Bk.fin b),.int .i64 (Bk.tlo b),.int .i64 (Bk.thi b),.int .i64 (Bk.slo b),.int .i64 (Bk.shi b),.int .i64 (Bk.notice b),.lst .ro 3 (plsU (Bk.players b)),U.fn (fnE w) [] [],U.fn (fnE v) [] []],SB.box [.int .i64 0,.int .i64 0,.int .i64 0,.int .i64 0,.int .i64 0],SB.box [.int .i64 0,.int .i64 0,.int .i64 0,.int .i64 0,.int .i64 0]]) (.c4 rfl rfl rfl rfl (.cons rfl (.nil rfl))) rfl fun fr=>?_
 refine k_seq (kQ (zE rfl rfl zBO (zE rfl rfl yB (zE rfl rfl yd (zF rfl rfl rfl sh25 rfl (yF rfl ty25 rfl (List.length_map _) ?_))))))
 refine zC rfl (zA (zL ?_))
 refine yh (fun kk s2=>∃i:Nat,kk+i=b.players.length∧(∃e,s2.st=[.box (truC b (fnE w) (fnE v)),.box [.int .i64 0,.int .i64 0,.int .i64 0,.int .i64 0,.int .i64 0],.box (arrU (mixF (fun _=>0) (aftF b w L 0) i))]++e)∧Holds s2 [(1,.lst .ro 1 (zG L)),(2,.int .i64 m),(3,.box 0 0),(6,.box 1 0),(7,.box 2 0),(18,.lst .ro 3 (plsU b.players)),(19,.int .i64 b.players.length),(20,.int .i64 i)]) (fun kk s2 hI=>?_) b.players.length _ ⟨0,rfl,⟨[],by rw[mix_z];rfl⟩,.c4 rfl rfl rfl rfl (.c4 rfl rfl rfl rfl (.nil rfl))⟩
 obtain⟨i,hk,⟨e,hst2⟩,hs2⟩:=hI
 generalize hY:[SB.box (truC b (fnE w) (fnE v)),.box [.int .i64 0,.int .i64 0,.int .i64 0,.int .i64 0,.int .i64 0],.box (arrU (mixF (fun _=>0) (aftF b w L 0) i))]++e=Y at hst2
 have y0:Y[0]? =some (.box (truC b (fnE w) (fnE v))):=by rw[←hY];rfl
 have y2:Y[2]? =some (.box (arrU (mixF (fun _=>0) (aftF b w L 0) i))):=by rw[←hY];rfl
 refine zH _ _ hs2 hst2 fun fr2=>?_
 by_cases hin:i<b.players.length
 ·obtain⟨p,hp1⟩:∃p,b.players[i]? =some p:=⟨b.players[i],List.getElem?_eq_getElem hin⟩
  have qE:=retE (orc:=orc) hi w ⟨p.la,p.lb⟩
  have ef:aftF b w L 0 i=endI w ⟨p.la,p.lb⟩:=by unfold aftF;rw[hp1];rfl
  refine kQ (zf rfl rfl rfl (zA (k_seq (k_cT rfl (decide_eq_true (by omega)) (zQ (k_seq (zL (kQ ?_))))))))
  refine zC rfl (yD (u:=(p).u) rfl ty25 rfl rfl (Int.natCast_nonneg _) (by simp[hp1]) cl68 ?_)
  refine wJ rfl rfl sh68 rfl ?_
  refine zi rfl ze68 ?_
  refine zB rfl (zZ rfl (zp _ _) sh68 rfl rfl rfl rfl rfl ?_)
  refine zA ?_
  refine zH [(1,.lst .ro 1 (zG L)),(2,.int .i64 ↑m),(3,U.box 0 0),(6,U.box 1 0),(7,U.box 2 0),(8,.int .i64 ↑i),(9,U.box (List.length Y) 0),(18,.lst .ro 3 (plsU (Bk.players b))),(19,.int .i64 ↑(List.length (Bk.players b))),(20,.int .i64 ↑i)] (Y++[SB.box [.int .i64 (Pl.la p),.int .i64 (Pl.lb p),.lst .ro 2 (zu (Pl.cat p))]]) (.c4 rfl rfl rfl rfl (.c4 rfl rfl rfl rfl (.cons rfl (.cons rfl (.nil rfl))))) (yx _ _ _) fun fr=>?_
  refine k_region (zC rfl (zE rfl rfl fld88_1 (zF rfl rfl (zo y0) sh86 rfl ?_)))
  refine zE rfl rfl zCw (zJ rfl rfl (zp _ _) sh24 rfl ?_)
  refine ye rfl rfl qE (.lrefl _) ?_
  refine o_idxA rfl ty85 rfl rfl (by omega) (by omega) cl3 ?_
  refine zAP rfl (zo y2) sh3 (by show Nat.blt (0+(i:Int).toNat*1) (arrU _).length=true;rw[Int.toNat_natCast,Nat.mul_one,Nat.blt_eq];simp[arrU];omega) rfl ?_
  refine zA ?_
  refine zH [(1,.lst .ro 1 (zG L)),(2,.int .i64 ↑m),(3,U.box 0 0),(6,U.box 1 0),(7,U.box 2 0),(18,.lst .ro 3 (plsU (Bk.players b))),(19,.int .i64 ↑(List.length (Bk.players b))),(20,.int .i64 ↑i)] (List.set (Y++[SB.box [.int .i64 (Pl.la p),.int .i64 (Pl.lb p),.lst .ro 2 (zu (Pl.cat p))]]) 2 (SB.box (List.set (arrU (mixF (fun x ↦ (0:Int)) (aftF b w L 0) i)) (0+Int.toNat ↑i*1) (.int .i64 (endI w {a:=Pl.la p,b:=Pl.lb p}))))) (.c4 rfl rfl rfl rfl (.c4 rfl rfl rfl rfl (.nil rfl))) rfl fun fr=>?_
  refine k_region ?_
  refine yO rfl rfl rfl (by unfold I64;omega) (zC rfl (zA ?_))
  refine⟨kk - 1,by omega,i+1,by omega,⟨e++[.box [.int .i64 p.la,.int .i64 p.lb,.lst .ro 2 (zu p.cat)]],?_⟩,.c4 rfl rfl rfl rfl (.c4 rfl rfl rfl rfl (.nil rfl))⟩
  show(Y++[_]).set 2 (SB.box ((arrU _).set (0+(i:Int).toNat*1) (.int .i64 (endI w ⟨p.la,p.lb⟩))))=_
  rw[Int.toNat_natCast,Nat.mul_one,Nat.zero_add,←ef,arr_set _ _ (by omega),←hY];rfl
 ·have hie:i=b.players.length:=by omega
  have em:mixF (fun _=>0) (aftF b w L 0) i=aftF b w L 0:=by
   funext j
   unfold mixF
   split
   ·rfl
   ·unfold aftF;rw[List.getElem?_eq_none (by omega)]
  rw[em]at y2
  subst hie
  refine kQ (zf rfl rfl rfl (zA (k_seq (k_cF rfl (decide_eq_false (by omega)) (yP (k_seq (kQ (zC rfl ?_))))))))
  refine zC rfl (zA (zL ?_))
  refine yh (fun kk s2=>∃n:Nat,kk+n=m∧(∃e,s2.st=[.box (truC b (fnE w) (fnE v)),.box [.int .i64 0,.int .i64 0,.int .i64 0,.int .i64 0,.int .i64 0],.box (arrU (aftF b w L n))]++e)∧Holds s2 [(1,.lst .ro 1 (zG L)),(3,.box 0 0),(6,.box 1 0),(7,.box 2 0),(33,.int .i64 m),(34,.int .i64 n)]) (fun kk s2 hI=>?_) m _ ⟨0,rfl,⟨e,hY.symm.trans (by rw[em])⟩,.c4 rfl rfl rfl rfl (.cons rfl (.cons rfl (.nil rfl)))⟩
  obtain⟨n,hk,⟨e,hst2⟩,hs2⟩:=hI
  generalize hY2:[SB.box (truC b (fnE w) (fnE v)),.box [.int .i64 0,.int .i64 0,.int .i64 0,.int .i64 0,.int .i64 0],.box (arrU (aftF b w L n))]++e=Z at hst2
  have z0:Z[0]? =some (.box (truC b (fnE w) (fnE v))):=by rw[←hY2];rfl
  have z2:Z[2]? =some (.box (arrU (aftF b w L n))):=by rw[←hY2];rfl
  refine zH _ _ hs2 hst2 fun fr2=>?_
  by_cases hin:n<m
  ·have hnm:(n:Int)<b.parts*b.size:=by omega
   obtain⟨d1,d2⟩:=div_n hb n
   have hq:=part_lt hb hnm
   have q98:=ret98 (orc:=orc) hi hb h w v hnm
   obtain⟨x,hx,hxr⟩:=at_ok h hq
   have hsb:=slip_b hb w L n
   have eaf:∀p,aftI b w L p (n+1)=max 0 (aftI b w L p n+zAs b w L n - catI (!w) p x):=fun p=>by
    show max 0 (_+_ - catI (!w) p ((L[n / b.size.toNat]?).getD 0))=_
    rw[hx];rfl
   generalize n / b.size.toNat=q at*
   generalize zAs b w L n=sl at*
   have mx:=mix_z (aftF b w L n) (aftF b w L (n+1))
   refine kQ (zf rfl rfl rfl (zA (k_seq (k_cT rfl (decide_eq_true (by omega)) (zQ (k_seq (zL (kQ ?_))))))))
   refine zC rfl (zB rfl (zA (k_seq (yL [.plain,.plain,.plain,.plain,.read true,.plain,.read true,.plain,.plain,.quiet,.plain,.plain] (by kernel_rfl) (by kernel_rfl) (by kernel_rfl) ?_))))
   refine zD (zC rfl (zA rfl)) (zD (zE rfl rfl zBO (zA rfl)) ?_)
   refine zD (zE rfl rfl yB (zA rfl)) ?_
   refine zD (zE rfl rfl yZ (zA rfl)) ?_
   refine zR rfl (zF rfl rfl z0 sh3 rfl (zA rfl)) ?_
   refine zD (o_quo rfl rfl rfl (by omega) (by unfold I64;omega) (zA rfl)) ?_
   refine zR rfl (zJ rfl rfl z0 sh88 rfl (zA rfl)) ?_
   refine zD (zC rfl (zA rfl)) (zD (zC rfl (zA rfl)) (zEx rfl (q98) (.lrefl _) ?_))
   refine zD (zB rfl (zA rfl)) ?_
   refine zD (zB rfl (zA rfl)) ?_
   refine yw ?_
   refine zH [(1,.lst .ro 1 (zG L)),(3,U.box 0 0),(6,U.box 1 0),(7,U.box 2 0),(11,.int .i64 (Int.tdiv (↑n) (Bk.size b))),(12,.int .i64 sl),(33,.int .i64 ↑m),(34,.int .i64 ↑n)] (Z) (.c4 rfl rfl rfl rfl (.c4 rfl rfl rfl rfl (.nil rfl))) rfl fun fr=>?_
   refine kQ (zE rfl rfl zBO (zE rfl rfl yB (zE rfl rfl yd (zF rfl rfl z0 sh25 rfl ?_))))
   refine yF rfl ty25 rfl (List.length_map _) ?_
   refine zC rfl (zA (zL ?_))
   refine yh (fun ki s2=>∃i:Nat,ki+i=b.players.length∧(∃e,s2.st=[.box (truC b (fnE w) (fnE v)),.box [.int .i64 0,.int .i64 0,.int .i64 0,.int .i64 0,.int .i64 0],.box (arrU (mixF (aftF b w L n) (aftF b w L (n+1)) i))]++e)∧Holds s2 [(1,.lst .ro 1 (zG L)),(3,.box 0 0),(6,.box 1 0),(7,.box 2 0),(11,.int .i64 q),(12,.int .i64 sl),(33,.int .i64 m),(34,.int .i64 n),(50,.lst .ro 3 (plsU b.players)),(51,.int .i64 b.players.length),(52,.int .i64 i)]) (fun ki s2 hI=>?_) b.players.length _ ⟨0,rfl,⟨e,by rw[mx];exact hY2.symm⟩,.c4 rfl rfl rfl rfl (.cons (by show U.int .i64 _=_;rw[d1]) (.c4 rfl rfl rfl rfl (.cons rfl (.cons rfl (.nil rfl)))))⟩
   obtain⟨i,hki,⟨e3,hst3⟩,hs3⟩:=hI
   generalize hY3:[SB.box (truC b (fnE w) (fnE v)),.box [.int .i64 0,.int .i64 0,.int .i64 0,.int .i64 0,.int .i64 0],.box (arrU (mixF (aftF b w L n) (aftF b w L (n+1)) i))]++e3=Y3 at hst3
   have y0:Y3[0]? =some (.box (truC b (fnE w) (fnE v))):=by rw[←hY3];rfl
   have y2:Y3[2]? =some (.box (arrU (mixF (aftF b w L n) (aftF b w L (n+1)) i))):=by rw[←hY3];rfl
   refine zH _ _ hs3 hst3 fun fr3=>?_
   by_cases hil:i<b.players.length
   ·obtain⟨p,hp1⟩:∃p,b.players[i]? =some p:=⟨b.players[i],List.getElem?_eq_getElem hil⟩
    have hpo:=pl_ok hb hp1
    obtain⟨c,hc1,hc2,hc3,hc4⟩:=cat_ok hpo.2 hxr (!w)
    have hab:=aft_b hb w L h.rg hpo n
    have hma:(arrU (mixF (aftF b w L n) (aftF b w L (n+1)) i))[0+(i:Int).toNat*1]? =some (.int .i64 (aftI b w L p n)):=by
     rw[Int.toNat_natCast,Nat.mul_one,Nat.zero_add,arr_at _ (by omega)]
     unfold mixF;rw[if_neg (Nat.lt_irrefl _)];unfold aftF;rw[hp1]
    have eaf1:aftF b w L (n+1) i=max 0 (aftI b w L p n+sl - endI (!w) c):=by
     unfold aftF;rw[hp1];show aftI b w L p (n+1)=_;rw[eaf p,hc2]
    have qE:RetP Tryd.prog is orc (fnE v) [wB c.a c.b] (.int .i64 (endI (!w) c)):=by
     rw[hv];exact retE hi (!w) c
    generalize aftI b w L p n=av at*
    generalize endI (!w) c=ce at*
    have q99:=ret99 (orc:=orc) hi 0 (av+sl - ce)
    refine kQ (zf rfl rfl rfl (zA (k_seq (k_cT rfl (decide_eq_true (by omega)) (zQ (k_seq (zL (kQ ?_))))))))
    refine zC rfl (yD (u:=(p).u) rfl ty25 rfl rfl (Int.natCast_nonneg _) (by simp[hp1]) cl68 ?_)
    refine wJ rfl rfl sh68 rfl ?_
    refine zi rfl ze68 ?_
    refine zB rfl (zZ rfl (zp _ _) sh68 rfl rfl rfl rfl rfl ?_)
    refine zA ?_
    refine zH [(1,.lst .ro 1 (zG L)),(3,U.box 0 0),(6,U.box 1 0),(7,U.box 2 0),(11,.int .i64 ↑q),(12,.int .i64 sl),(13,.int .i64 ↑i),(14,U.box (List.length Y3) 0),(33,.int .i64 ↑m),(34,.int .i64 ↑n),(50,.lst .ro 3 (plsU (Bk.players b))),(51,.int .i64 ↑(List.length (Bk.players b))),(52,.int .i64 ↑i)] (Y3++[SB.box [.int .i64 (Pl.la p),.int .i64 (Pl.lb p),.lst .ro 2 (zu (Pl.cat p))]]) (.c4 rfl rfl rfl rfl (.c4 rfl rfl rfl rfl (.c4 rfl rfl rfl rfl (.cons rfl (.nil rfl))))) (yx _ _ _) fun fr=>?_
    refine yL [.plain,.plain,.plain,.read true,.plain,.plain,.plain,.read true,.plain,.read true,.plain,.plain,.plain,.read true,.plain,.read true,.quiet,.plain,.plain,.plain,.plain,.plain] (by kernel_rfl) (by kernel_rfl) (by kernel_rfl) ?_
    refine zD (zC rfl (zA rfl)) (zD (zC rfl (zA rfl)) (zD (o_idxA rfl ty85 rfl rfl (by omega) (by omega) cl3 (zA rfl)) ?_))
    refine zR rfl (zF rfl rfl (zo y2) sh3 hma (zA rfl)) ?_
    refine zD (zC rfl (zA rfl)) ?_
    refine zD (yO rfl rfl rfl (by unfold I64;omega) (zA rfl)) ?_
    refine zD (zE rfl rfl fld88_2 (zA rfl)) ?_
    refine zR rfl (zF rfl rfl (zo y0) sh86 rfl (zA rfl)) ?_
    refine zD (zE rfl rfl zCv (zA rfl)) ?_
    refine yI [(1,.lst .ro 1 (zG L)),(3,U.box 0 0),(6,U.box 1 0),(7,U.box 2 0),(11,.int .i64 ↑q),(12,.int .i64 sl),(33,.int .i64 ↑m),(34,.int .i64 ↑n),(50,.lst .ro 3 (plsU (Bk.players b))),(51,.int .i64 ↑(List.length (Bk.players b))),(52,.int .i64 ↑i),(57,.int .i64 ↑i),(62,.int .i64 (av+sl)),(64,U.fn (fnE v) [] []),(65,U.box (List.length Y3) 2)] [] (Y3++[SB.box [.int .i64 (Pl.la p),.int .i64 (Pl.lb p),.lst .ro 2 (zu (Pl.cat p))]]) (.c4 rfl rfl rfl rfl (.c4 rfl rfl rfl rfl (.c4 rfl rfl rfl rfl (.cons rfl (.cons rfl (.cons rfl (.nil rfl))))))) rfl rfl fun fr=>?_
    refine zR rfl (zF rfl rfl (zp _ _) sh66 rfl (zA rfl)) ?_
    refine zD (zC rfl (zA rfl)) (zD (zC rfl (zA rfl)) (zD (yD (u:=.int .i64 (x)) rfl ty94 rfl rfl (Int.natCast_nonneg _) (by simp[hx]) cl3 (zA rfl)) ?_))
    refine zR rfl (zT rfl rfl sh3 rfl (zA rfl)) ?_
    refine zD (yD (u:=(c).u) rfl ty66 rfl rfl (by omega) (by simp[hc1]) cl24 (zA rfl)) ?_
    refine zR rfl (wJ rfl rfl sh24 rfl (zA rfl)) ?_
    refine d_callVQ rfl rfl qE (.lrefl _) ?_
    refine zD (yn rfl rfl rfl (by unfold I64;omega) (zA rfl)) ?_
    refine yI [(1,.lst .ro 1 (zG L)),(3,U.box 0 0),(6,U.box 1 0),(7,U.box 2 0),(11,.int .i64 ↑q),(12,.int .i64 sl),(33,.int .i64 ↑m),(34,.int .i64 ↑n),(50,.lst .ro 3 (plsU (Bk.players b))),(51,.int .i64 ↑(List.length (Bk.players b))),(52,.int .i64 ↑i),(57,.int .i64 ↑i),(74,.int .i64 (av+sl - ce))] [] (Y3++[SB.box [.int .i64 (Pl.la p),.int .i64 (Pl.lb p),.lst .ro 2 (zu (Pl.cat p))]]) (.c4 rfl rfl rfl rfl (.c4 rfl rfl rfl rfl (.c4 rfl rfl rfl rfl (.cons rfl (.nil rfl))))) rfl rfl fun fr=>?_
    refine zD (wb (es:=[.int .i64 (av+sl - ce)]) rfl ty22 ze3 cl3 rfl rfl rfl rfl rfl rfl rfl rfl (zA rfl)) ?_
    refine zD (zP rfl (q99) (.lcons _ _ _ _ (.refl _) (.lcons _ _ _ _ (.ro _ _ _) (.lrefl _))) (zA rfl)) ?_
    refine zD (o_idxA rfl ty85 rfl rfl (by omega) (by omega) cl3 (zA rfl)) ?_
    refine zD (zAP rfl (zo y2) sh3 (by show Nat.blt (0+(i:Int).toNat*1) (arrU _).length=true;rw[Int.toNat_natCast,Nat.mul_one,Nat.blt_eq];simp[arrU];omega) rfl (zA rfl)) ?_
    refine yw ?_
    refine zH [(1,.lst .ro 1 (zG L)),(3,U.box 0 0),(6,U.box 1 0),(7,U.box 2 0),(11,.int .i64 ↑q),(12,.int .i64 sl),(33,.int .i64 ↑m),(34,.int .i64 ↑n),(50,.lst .ro 3 (plsU (Bk.players b))),(51,.int .i64 ↑(List.length (Bk.players b))),(52,.int .i64 ↑i)] (List.set (Y3++[SB.box [.int .i64 (Pl.la p),.int .i64 (Pl.lb p),.lst .ro 2 (zu (Pl.cat p))]]) 2 (SB.box (List.set (arrU (mixF (aftF b w L n) (aftF b w L (n+1)) i)) (0+Int.toNat ↑i*1) (.int .i64 (Max.max (0:Int) (av+sl - ce)))))) (.c4 rfl rfl rfl rfl (.c4 rfl rfl rfl rfl (.cons rfl (.cons rfl (.cons rfl (.nil rfl)))))) rfl fun fr=>?_
    refine k_region ?_
    refine yO rfl rfl rfl (by unfold I64;omega) (zC rfl (zA ?_))
    refine⟨ki - 1,by omega,i+1,by omega,⟨e3++[.box [.int .i64 p.la,.int .i64 p.lb,.lst .ro 2 (zu p.cat)]],?_⟩,.c4 rfl rfl rfl rfl (.c4 rfl rfl rfl rfl (.cons rfl (.cons rfl (.cons rfl (.nil rfl)))))⟩
    show(Y3++[_]).set 2 (SB.box ((arrU _).set (0+(i:Int).toNat*1) (.int .i64 (max 0 (av+sl - ce)))))=_
    rw[Int.toNat_natCast,Nat.mul_one,Nat.zero_add,←eaf1,arr_set _ _ (by omega),←hY3];rfl
   ·have hie:i=b.players.length:=by omega
    have em:mixF (aftF b w L n) (aftF b w L (n+1)) i=aftF b w L (n+1):=by
     funext j
     unfold mixF
     split
     ·rfl
     ·unfold aftF;rw[List.getElem?_eq_none (by omega)]
    rw[em]at hY3
    refine kQ (zf rfl rfl rfl (zA (k_seq (k_cF rfl (decide_eq_false (by omega)) (yP (k_region ?_))))))
    refine yO rfl rfl rfl (by unfold I64;omega) (zC rfl (zA ?_))
    exact⟨kk - 1,by omega,n+1,by omega,⟨e3,hY3.symm⟩,.c4 rfl rfl rfl rfl (.cons rfl (.cons rfl (.nil rfl)))⟩
  ·have hie:n=m:=by omega
   have z1:Z[1]? =some (.box [.int .i64 0,.int .i64 0,.int .i64 0,.int .i64 0,.int .i64 0]):=by rw[←hY2];rfl
   subst hie
   have z1s:(Z.set 1 (.box (arrU (aftF b w L n))))[1]? =some (.box (arrU (aftF b w L n))):=List.getElem?_set_self (List.getElem?_eq_some_iff.1 z1).1
   refine kQ (zf rfl rfl rfl (zA (k_seq (k_cF rfl (decide_eq_false (by omega)) (yP (kQ (zJ rfl rfl z2 sh85 rfl ?_)))))))
   refine zZ rfl z1 sh85 rfl rfl rfl rfl rfl ?_
   refine zA (zU ?_)
   refine⟨.inr rfl,_,.cons _ _ _ _ (.cellN 6 85 1 0 5 (arrU (aftF b w L n)) rfl z1s sh85 rfl) .nil,?_⟩
   exact .refl _
end
end Go.Proofs.YtfbmlibilcjlgaaDoor.drumBounds
