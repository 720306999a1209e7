import Derived.Test.YtinhcdijbcamaaaVamT2
set_option linter.unusedVariables false
set_option linter.unusedSimpArgs false
set_option linter.constructorNameAsVariable false
namespace Go.Proofs.Ytinhcdijbcamaaa.tuneNarrower
open Vam
section
variable {is:FuncId→Bool}{orc:Known}
theorem cl4:Program.cellsOf Try.prog 4=1:=by kernel_rfl
theorem sh4:shOf Try.prog 4=.one:=by kernel_rfl
theorem wT:tyOf Try.prog 122=.array 8 4:=by kernel_rfl
noncomputable def b38:Code:=(Try.f38.body).getD .skip
theorem body38:bodyOf Try.prog 38=some (17,b38,[.tmp 4]):=by kernel_rfl
theorem pure38:pureFn Try.prog 38=true:=by kernel_rfl
noncomputable def b44:Code:=(Try.f44.body).getD .skip
theorem body44:bodyOf Try.prog 44=some (34,b44,[.tmp 4]):=by kernel_rfl
theorem pure44:pureFn Try.prog 44=true:=by kernel_rfl
theorem retAs(hi:Off is){j:Jn}(hj:JV j){x:Int}(hx:1≤x∧x≤4000):RetP Try.prog is orc (uD j.kd) [j.u,.int .i64 x] (z9 (j.alo x) (j.ahi x)):=by
 have hk:j.kd=0∨j.kd=1∨j.kd=2∨j.kd=3:=by unfold JV at hj;omega
 rcases hk with h|h|h|h
 ·rw[show uD j.kd=110 by unfold uD;simp[h]];exact ret110 hi hj h hx
 ·rw[show uD j.kd=111 by unfold uD;simp[h]];exact ret111 hi hj h hx
 ·rw[show uD j.kd=112 by unfold uD;simp[h]];exact ret112 hi hj h hx
 ·rw[show uD j.kd=113 by unfold uD;simp[h]];exact ret113 hi hj h hx
theorem ret81(hi:Off is){j:Jn}(hj:JV j){x:Int}(hx:1≤x∧x≤4000):RetP Try.prog is orc 81 [j.u,.int .i64 x] (z9 (j.alo x) (j.ahi x)):=by
 have hk:0≤j.kd∧j.kd≤3:=by unfold JV at hj;omega
 have q:=retAs (is:=is) (orc:=orc) hi hj hx
 refine yQ body81 pure81 (hi 81 (by decide)) rfl rfl (z4 (uA j 6) (.int _ _ _)) (.inl (yf _ _ _)) ?_
 refine kQ (yH rfl rfl (zV rfl ze26 ?_))
 refine zB ?_
 refine zM [(1,.int .i64 x),(2,U.box 0 0),(4,U.box 1 0)] ([SB.box [.int .i64 j.kd,.int .i64 j.one,.int .i64 j.two,.int .i64 j.lo,.int .i64 j.hi],SB.box [.int .i64 0,.int .i64 0]]) (.c2 rfl rfl (.cons rfl (.nil rfl))) rfl fun fr=>?_
 refine k_seq (k_draw [.plain,.read true,.quiet,.plain,.read true,.plain,.plain,.plain] (by kernel_rfl) (by kernel_rfl) (by kernel_rfl) ?_)
 refine zE (zG rfl rfl fld72_0 (zB rfl)) ?_
 refine zi rfl (zF rfl rfl rfl sh3 rfl (zB rfl)) (d_callQ rfl (ret100 hi hk) (.lrefl _) ?_)
 refine zE (o_field1 rfl rfl fld127_0 sh125 rfl (zB rfl)) ?_
 refine zi rfl (zK rfl rfl rfl sh72 rfl (zB rfl)) ?_
 refine zE (zA rfl (zB rfl)) (zE (o_callVR rfl rfl q (.lrefl _) (zB rfl)) ?_)
 refine zE (zN rfl rfl sh26 rfl rfl rfl rfl rfl (zB rfl)) ?_
 refine d_nil ?_
 refine ze ?_
 refine⟨.inr rfl,_,.cons _ _ _ _ (.cellN 4 26 _ _ _ _ rfl rfl sh26 rfl) .nil,?_⟩
 exact .refl _
theorem ret115(hi:Off is){j:Jn}(hj:JV j):RetP Try.prog is orc 115 [j.u] j.bk.u:=by
 have hk:0≤j.kd∧j.kd≤3:=by unfold JV at hj;omega
 refine yQ body115 pure115 (hi 115 (by decide)) rfl rfl (y6 (uA j 6)) (.inl (uA _ _)) ?_
 refine kQ (yH rfl rfl (zV rfl ze72 ?_))
 refine zB ?_
 refine zM [(1,.box 0 0),(2,.box 1 0)] ([SB.box [.int .i64 j.kd,.int .i64 j.one,.int .i64 j.two,.int .i64 j.lo,.int .i64 j.hi],SB.box [.int .i64 0,.int .i64 0,.int .i64 0,.int .i64 0,.int .i64 0]]) (.c2 rfl rfl (.nil rfl)) rfl fun fr=>?_
 refine k_seq (k_draw [.plain,.read true,.quiet,.plain,.plain,.read true,.plain,.read true,.plain,.read true,.plain,.plain] (by kernel_rfl) (by kernel_rfl) (by kernel_rfl) ?_)
 refine zE (zG rfl rfl fld72_0 (zB rfl)) ?_
 refine zi rfl (zF rfl rfl rfl sh3 rfl (zB rfl)) (d_callQ rfl (ret100 hi hk) (.lrefl _) ?_)
 refine zE (o_field1 rfl rfl fld127_1 sh3 rfl (zB rfl)) ?_
 refine zE (zG rfl rfl wJ (zB rfl)) ?_
 refine zi rfl (zF rfl rfl rfl sh3 rfl (zB rfl)) (zE (zG rfl rfl w0 (zB rfl)) ?_)
 refine zi rfl (zF rfl rfl rfl sh3 rfl (zB rfl)) (zE (zG rfl rfl wI (zB rfl)) ?_)
 refine zi rfl (zK rfl rfl rfl sh26 rfl (zB rfl)) ?_
 refine zE (yP rfl ze72 pl72 rfl rfl (zB rfl)) ?_
 refine zE (zN rfl rfl sh72 rfl rfl rfl rfl rfl (zB rfl)) ?_
 refine d_nil ?_
 refine ze ?_
 refine⟨.inr rfl,_,.cons _ _ _ _ (.cellN 2 72 _ _ _ _ rfl rfl sh72 rfl) .nil,?_⟩
 exact .refl _
def wg(n b:Int):Int:=if b<1 then 0 else n % b
theorem uH{n b:Int}(h:1≤b):0≤wg n b∧wg n b<b:=by
 unfold wg;rw[if_neg (by omega)]
 exact⟨Int.emod_nonneg _ (by omega),Int.emod_lt_of_pos _ (by omega)⟩
set_option maxHeartbeats 4000000 in
theorem ret38(hi:Off is)(n b:Int)(hb:b≤1000000):RetP Try.prog is orc 38 [.int .i64 n,.int .i64 b] (.int .i64 (wg n b)):=by
 refine yQ body38 pure38 (hi 38 (by decide)) rfl rfl (z4 (.int _ _ _) (.int _ _ _)) (.inl (.int _ _ _)) ?_
 by_cases h:b<1
 ·have e:wg n b=0:=by unfold wg;rw[if_pos h]
  rw[e]
  refine kQ (zC rfl (zB (k_seq (kQ (zA rfl (zt rfl rfl rfl (zB (k_cT rfl (decide_eq_true (by omega)) ?_))))))))
  refine kQ (zC rfl (zB (ze ?_)))
  refine⟨.inr rfl,_,.cons _ _ _ _ (.tmp 4) .nil,?_⟩
  exact .refl _
 ·have hb0:0<b:=by omega
  have e:wg n b=n % b:=by unfold wg;rw[if_neg h]
  have t1:n.tmod b<b:=Int.tmod_lt_of_pos n hb0
  have t2: -b<n.tmod b:=by have:=Int.lt_tmod_of_pos n hb0;omega
  by_cases hn:n.tmod b<0
  ·have e2:n % b=n.tmod b+b:=by
    rw[Int.emod_eq_tmod]
    have h0: ¬ (0≤n):=fun h0=>by have:=Int.tmod_nonneg b h0;omega
    have h3: ¬ (b ∣ n):=fun h3=>by have:=(Int.dvd_iff_tmod_eq_zero).1 h3;omega
    simp[h0,h3];omega
   rw[e,e2]
   refine kQ (zC rfl (zB (k_seq (kQ (zA rfl (zt rfl rfl rfl (zB (k_cF rfl (decide_eq_false (by omega)) ?_))))))))
   refine zW (kQ (zA rfl (zA rfl (o_rem rfl rfl rfl (by omega) ?_))))
   refine zC rfl (zB (k_seq (kQ (zA rfl (zt rfl rfl rfl (zB (k_cT rfl (decide_eq_true (by omega)) (k_region ?_))))))))
   refine zA rfl (zA rfl ?_)
   refine o_add rfl rfl rfl (by unfold I64;omega) (zC rfl (zB ?_))
   refine zM [(5,.int .i64 (Int.tmod n b+b))] ([]) (.cons rfl (.nil rfl)) rfl fun fr=>?_
   refine kQ (zA rfl (zC rfl (zB (ze ?_))))
   refine⟨.inr rfl,_,.cons _ _ _ _ (.tmp 4) .nil,?_⟩
   exact .refl _
  ·have e2:n % b=n.tmod b:=by
    rw[Int.emod_eq_tmod]
    by_cases h0:0≤n
    ·simp[h0]
    ·have h3:n.tmod b=0:=by
      have:=Int.tmod_nonneg b (show 0≤ -n by omega)
      rw[Int.neg_tmod]at this
      omega
     have:b ∣ n:=(Int.dvd_iff_tmod_eq_zero).2 h3
     simp[h0,this]
   rw[e,e2]
   refine kQ (zC rfl (zB (k_seq (kQ (zA rfl (zt rfl rfl rfl (zB (k_cF rfl (decide_eq_false (by omega)) ?_))))))))
   refine zW (kQ (zA rfl (zA rfl (o_rem rfl rfl rfl (by omega) ?_))))
   refine zC rfl (zB (k_seq (kQ (zA rfl (zt rfl rfl rfl (zB (k_cF rfl (decide_eq_false (by omega)) (zW ?_))))))))
   refine kQ (zA rfl (zC rfl (zB (ze ?_))))
   refine⟨.inr rfl,_,.cons _ _ _ _ (.tmp 4) .nil,?_⟩
   exact .refl _
def uV(a b n:Int):Int:=if b≤a then a else a+wg n (b - a+1)
theorem uc{a b:Int}(n:Int)(h:a≤b):a≤uV a b n∧uV a b n≤b:=by
 unfold uV
 split
 ·omega
 ·have:=uH (n:=n) (b:=b - a+1) (by omega)
  omega
set_option maxHeartbeats 4000000 in
theorem ret44(hi:Off is)(a b n:Int)(ha: -100000≤a∧a≤100000)(hb: -100000≤b∧b≤100000):RetP Try.prog is orc 44 [z9 a b,.int .i64 n] (.int .i64 (uV a b n)):=by
 refine yQ body44 pure44 (hi 44 (by decide)) rfl rfl (z4 (yf a b 6) (.int _ _ _)) (.inl (.int _ _ _)) ?_
 unfold uV
 by_cases h:b≤a
 ·rw[if_pos h]
  refine kQ (yH rfl rfl (zC rfl (zB ?_)))
  refine zM [(1,.int .i64 n),(2,U.box 0 0)] ([SB.box [.int .i64 a,.int .i64 b]]) (.c2 rfl rfl (.nil rfl)) rfl fun fr=>?_
  refine k_seq (kQ (zG rfl rfl yh (zF rfl rfl rfl sh3 rfl (zG rfl rfl yJ (zF rfl rfl rfl sh3 rfl (o_leq rfl rfl rfl (zB (k_cT rfl (decide_eq_true (by omega)) ?_))))))))
  refine kQ (zG rfl rfl yJ (zF rfl rfl rfl sh3 rfl (zC rfl (zB (ze ?_)))))
  refine⟨.inr rfl,_,.cons _ _ _ _ (.tmp 4) .nil,?_⟩
  exact .refl _
 ·rw[if_neg h]
  have ht:=uH (n:=n) (b:=b - a+1) (by omega)
  refine kQ (yH rfl rfl (zC rfl (zB ?_)))
  refine zM [(1,.int .i64 n),(2,U.box 0 0)] ([SB.box [.int .i64 a,.int .i64 b]]) (.c2 rfl rfl (.nil rfl)) rfl fun fr=>?_
  refine k_seq (kQ (zG rfl rfl yh (zF rfl rfl rfl sh3 rfl (zG rfl rfl yJ (zF rfl rfl rfl sh3 rfl (o_leq rfl rfl rfl (zB (k_cF rfl (decide_eq_false (by omega)) ?_))))))))
  refine zW (kQ (zG rfl rfl yh (zF rfl rfl rfl sh3 rfl (zG rfl rfl yJ (zF rfl rfl rfl sh3 rfl ?_)))))
  refine o_sub rfl rfl rfl (by unfold I64;omega) ?_
  refine o_add rfl rfl rfl (by unfold I64;omega) (zC rfl (zB ?_))
  refine zM [(1,.int .i64 n),(2,U.box 0 0),(5,.int .i64 (b - a+(1:Int)))] ([SB.box [.int .i64 a,.int .i64 b]]) (.c2 rfl rfl (.cons rfl (.nil rfl))) rfl fun fr=>?_
  refine k_seq (kQ (zA rfl (zt rfl rfl rfl (zB (k_cF rfl (decide_eq_false (by omega)) (zW (k_seq (k_draw [.plain,.read true,.plain,.plain,.read false,.plain,.plain] (by kernel_rfl) (by kernel_rfl) (by kernel_rfl) ?_))))))))
  refine zE (zG rfl rfl yJ (zB rfl)) ?_
  refine zi rfl (zF rfl rfl rfl sh3 rfl (zB rfl)) (zE (zA rfl (zB rfl)) (zE (zA rfl (zB rfl)) (d_callR rfl (ret38 hi n (b - a+1) (by omega)) (.int _ _) (.lrefl _) ?_)))
  refine zE (o_add rfl rfl rfl (by unfold I64;omega) (zB rfl)) ?_
  refine zE (zC rfl (zB rfl)) ?_
  refine d_nil ?_
  refine ze ?_
  refine⟨.inr rfl,_,.cons _ _ _ _ (.tmp 4) .nil,?_⟩
  exact .refl _
end
section
variable {is:FuncId→Bool}{orc:Known}
theorem uQ:yR Try.prog 122=some ((.cons (.bool false) (.cons (.bool false) (.cons (.bool false) (.cons (.bool false) (.cons (.bool false) (.cons (.bool false) (.cons (.bool false) (.cons (.bool false) .nil)))))))):V):=by kernel_rfl
noncomputable def b101:Code:=(Try.f101.body).getD .skip
theorem body101:bodyOf Try.prog 101=some (29,b101,[.tmp 4]):=by kernel_rfl
theorem pure101:pureFn Try.prog 101=true:=by kernel_rfl
theorem cl26:Program.cellsOf Try.prog 26=2:=by kernel_rfl
theorem ty22:tyOf Try.prog 22=.slice 26:=by kernel_rfl
noncomputable def b82:Code:=(Try.f82.body).getD .skip
theorem body82:bodyOf Try.prog 82=some (31,b82,[.tmp 2]):=by kernel_rfl
theorem pure82:pureFn Try.prog 82=true:=by kernel_rfl
theorem cl61:Program.cellsOf Try.prog 61=2:=by kernel_rfl
theorem yA:zr Try.prog 28 0=some (0,22):=by kernel_rfl
theorem wP:zr Try.prog 28 1=some (1,23):=by kernel_rfl
theorem yz:zr Try.prog 61 0=some (0,29):=by kernel_rfl
theorem wW:zr Try.prog 61 1=some (1,22):=by kernel_rfl
theorem sh22:shOf Try.prog 22=.one:=by kernel_rfl
theorem sh23:shOf Try.prog 23=.one:=by kernel_rfl
theorem sh29:shOf Try.prog 29=.one:=by kernel_rfl
theorem sh61:shOf Try.prog 61=.many 2:=by kernel_rfl
theorem ty23:tyOf Try.prog 23=.slice 61:=by kernel_rfl
theorem ze61:yR Try.prog 61=some ((.cons .nils (.cons .nils .nil)):V):=by kernel_rfl
noncomputable def b83:Code:=(Try.f83.body).getD .skip
theorem body83:bodyOf Try.prog 83=some (47,b83,[.tmp 2]):=by kernel_rfl
theorem pure83:pureFn Try.prog 83=true:=by kernel_rfl
theorem cl48:Program.cellsOf Try.prog 48=2:=by kernel_rfl
theorem wK:zr Try.prog 28 2=some (2,24):=by kernel_rfl
theorem sh24:shOf Try.prog 24=.one:=by kernel_rfl
theorem sh48:shOf Try.prog 48=.many 2:=by kernel_rfl
theorem ty24:tyOf Try.prog 24=.slice 48:=by kernel_rfl
theorem ze48:yR Try.prog 48=some ((.cons (.int .i64 0) (.cons (.int .i64 0) .nil)):V):=by kernel_rfl
noncomputable def b84:Code:=(Try.f84.body).getD .skip
theorem body84:bodyOf Try.prog 84=some (23,b84,[.tmp 2]):=by kernel_rfl
theorem pure84:pureFn Try.prog 84=true:=by kernel_rfl
abbrev bl8(f:Nat→Bool):List U:=[.bool (f 0),.bool (f 1),.bool (f 2),.bool (f 3),.bool (f 4),.bool (f 5),.bool (f 6),.bool (f 7)]
theorem lt8{x:Int}(h:0≤x∧x<8):x.toNat=0∨x.toNat=1∨x.toNat=2∨x.toNat=3∨x.toNat=4∨x.toNat=5∨x.toNat=6∨x.toNat=7:=by omega
theorem bl8_at(f:Nat→Bool){x:Int}(h:0≤x∧x<8):(bl8 f)[0+x.toNat*1]? =some (.bool (f x.toNat)):=by
 rcases lt8 h with e|e|e|e|e|e|e|e<;>rw[e]<;>rfl
def updB(f:Nat→Bool)(i:Nat)(b:Bool):Nat→Bool:=fun j=>if j=i then b else f j
theorem bl8_set(f:Nat→Bool){x:Int}(h:0≤x∧x<8)(b:Bool):(bl8 f).set (0+x.toNat*1) (.bool b)=bl8 (updB f x.toNat b):=by
 rcases lt8 h with e|e|e|e|e|e|e|e<;>rw[e]<;>rfl
theorem bl8_lt{x:Int}(h:0≤x∧x<8):Nat.blt (0+x.toNat*1) 8=true:=by rw[Nat.blt_eq];omega
theorem uW{f g:Nat→Bool}(h:∀i,i<8→f i=g i):bl8 f=bl8 g:=by
 unfold bl8
 rw[h 0 (by decide),h 1 (by decide),h 2 (by decide),h 3 (by decide),h 4 (by decide),h 5 (by decide),h 6 (by decide),h 7 (by decide)]
def metB(l:List Int):Nat→Bool:=fun i=>decide ((i:Int)∈l)
def difB(l:List Int)(many:Int):Bool:=decide (l.Nodup∧∀x∈l,0≤x∧x<many)
set_option maxHeartbeats 4000000 in
theorem ret101(hi:Off is)(l:List Int)(many:Int)(hm:many≤8):RetP Try.prog is orc 101 [.lst .ro 1 (yc l),.int .i64 many] (.bool (difB l many)):=by
 refine yQ body101 pure101 (hi 101 (by decide)) rfl rfl (z4 (dat_ints 6 .ro (fun h=>by cases h) 1 l) (.int _ _ _)) (.inl (.bool _ _)) ?_
 refine kQ (zC rfl (zB (kQ (zV rfl uQ ?_))))
 refine zB ?_
 refine zM [(0,.lst .ro 1 (yc l)),(1,.int .i64 many),(5,U.box 0 0)] ([SB.box [.bool false,.bool false,.bool false,.bool false,.bool false,.bool false,.bool false,.bool false]]) (.c2 rfl rfl (.cons rfl (.nil rfl))) rfl fun fr=>?_
 refine k_seq (kQ (zA rfl (yZ rfl ty29 rfl (List.length_map _) ?_)))
 refine zA rfl (zB (zP ?_))
 refine k_loop (fun k st=>∃n:Nat,k+n=l.length∧(l.take n).Nodup∧(∀x∈l.take n,0≤x∧x<many)∧st.st=[.box (bl8 (metB (l.take n)))]∧Holds st [(1,.int .i64 many),(5,.box 0 0),(8,.lst .ro 1 (yc l)),(9,.int .i64 l.length),(10,.int .i64 n)]) (fun k st hI=>?_) l.length _ ?_
 ·obtain⟨n,hk,hnd,hrg,hst,hs⟩:=hI
  refine zM _ _ hs hst fun fr=>?_
  have hn8:(l.take n).length≤8:=wZ 8 _ hnd fun x hx=>by have:=hrg x hx;exact⟨this.1,by omega⟩
  by_cases hn:n<l.length
  ·have hn8':n≤8:=by rw[List.length_take]at hn8;omega
   obtain⟨x,hx⟩:∃x,l[n]? =some x:=⟨l[n],List.getElem?_eq_getElem hn⟩
   have hxm:=List.mem_of_getElem? hx
   have htk:l.take (n+1)=l.take n++[x]:=by rw[List.take_add_one,hx];rfl
   by_cases h1:x<0
   ·have hf:difB l many=false:=decide_eq_false fun h=>by have:=h.2 x hxm;omega
    rw[hf]
    refine kQ (zt rfl rfl rfl (zB (k_seq (k_cT rfl (decide_eq_true (by omega)) (zW (k_seq (zP (kQ ?_))))))))
    refine yr (u:=.int .i64 (x)) rfl ty29 rfl rfl (Int.natCast_nonneg _) (by simp[hx]) cl3 ?_
    refine yk rfl rfl sh3 rfl ?_
    refine zC rfl (zB (k_seq (kQ (zA rfl (zt rfl rfl rfl (zA rfl (o_gS rfl rfl rfl rfl (decide_eq_true (by omega)) (o_gS rfl rfl rfl rfl (decide_eq_true (by omega)) ?_))))))))
    refine o_gS rfl rfl rfl rfl (decide_eq_true (by omega)) (zT rfl rfl (decide_eq_true (by omega)) ?_)
    refine zA rfl (o_gS rfl rfl rfl rfl rfl (o_gS rfl rfl rfl rfl rfl (o_gS rfl rfl rfl rfl rfl (zT rfl rfl rfl ?_))))
    refine zB ?_
    refine zM [(1,.int .i64 many),(5,U.box 0 0),(7,.int .i64 x),(8,.lst .ro 1 (yc l)),(9,.int .i64 ↑(List.length l)),(10,.int .i64 ↑n),(17,U.tup []),(18,U.tup []),(19,U.tup []),(22,U.tup []),(23,U.tup []),(24,U.tup []),(25,.bool true)] ([SB.box (bl8 (metB (List.take n l)))]) (.c4 rfl rfl rfl rfl (.c4 rfl rfl rfl rfl (.c4 rfl rfl rfl rfl (.cons rfl (.nil rfl))))) rfl fun fr=>?_
    refine k_cT rfl rfl ?_
    refine kQ (zC rfl (zB (ze ?_)))
    refine⟨.inr rfl,_,.cons _ _ _ _ (.tmp 4) .nil,?_⟩
    exact .refl _
   ·by_cases h2:x ≥ many
    ·have hf:difB l many=false:=decide_eq_false fun h=>by have:=h.2 x hxm;omega
     rw[hf]
     refine kQ (zt rfl rfl rfl (zB (k_seq (k_cT rfl (decide_eq_true (by omega)) (zW (k_seq (zP (kQ ?_))))))))
     refine yr (u:=.int .i64 (x)) rfl ty29 rfl rfl (Int.natCast_nonneg _) (by simp[hx]) cl3 ?_
     refine yk rfl rfl sh3 rfl ?_
     refine zC rfl (zB (k_seq (kQ (zA rfl (zt rfl rfl rfl (zA rfl (o_gD rfl rfl rfl rfl (decide_eq_false (by omega)) (zA rfl ?_))))))))
     refine o_gD rfl rfl rfl rfl (decide_eq_false (by omega)) (zA rfl (o_gD rfl rfl rfl rfl (decide_eq_false (by omega)) (o_geq rfl rfl rfl (zQ rfl rfl (decide_eq_false (by omega)) ?_))))
     refine zA rfl (o_gS rfl rfl rfl rfl (decide_eq_true (by omega)) (o_gS rfl rfl rfl rfl (decide_eq_true (by omega)) (o_gS rfl rfl rfl rfl (decide_eq_true (by omega)) (zT rfl rfl (decide_eq_true (by omega)) ?_))))
     refine zB ?_
     refine zM [(1,.int .i64 many),(5,U.box 0 0),(7,.int .i64 x),(8,.lst .ro 1 (yc l)),(9,.int .i64 ↑(List.length l)),(10,.int .i64 ↑n),(17,.int .i64 x),(18,.int .i64 many),(19,U.bool (decide (many≤x))),(22,U.tup []),(23,U.tup []),(24,U.tup []),(25,.bool true)] ([SB.box (bl8 (metB (List.take n l)))]) (.c4 rfl rfl rfl rfl (.c4 rfl rfl rfl rfl (.c4 rfl rfl rfl rfl (.cons rfl (.nil rfl))))) rfl fun fr=>?_
     refine k_cT rfl rfl ?_
     refine kQ (zC rfl (zB (ze ?_)))
     refine⟨.inr rfl,_,.cons _ _ _ _ (.tmp 4) .nil,?_⟩
     exact .refl _
    ·have hx8:0≤x∧x<8:=by omega
     have hat:=bl8_at (metB (l.take n)) hx8
     cases h3:metB (l.take n) x.toNat with
     |true=>
      have hf:difB l many=false:=decide_eq_false fun h=>by
       have h4:=of_decide_eq_true h3
       rw[show((x.toNat:Nat):Int)=x by omega]at h4
       have h5:(l.take (n+1)).Nodup:=h.1.sublist (List.take_sublist _ _)
       rw[htk]at h5
       exact(List.nodup_append.1 h5).2.2 x h4 x (List.mem_singleton.2 rfl) rfl
      rw[hf]
      rw[h3]at hat
      refine kQ (zt rfl rfl rfl (zB (k_seq (k_cT rfl (decide_eq_true (by omega)) (zW (k_seq (zP (kQ ?_))))))))
      refine yr (u:=.int .i64 (x)) rfl ty29 rfl rfl (Int.natCast_nonneg _) (by simp[hx]) cl3 ?_
      refine yk rfl rfl sh3 rfl ?_
      refine zC rfl (zB (k_seq (kQ (zA rfl (zt rfl rfl rfl (zA rfl (o_gD rfl rfl rfl rfl (decide_eq_false (by omega)) (zA rfl ?_))))))))
      refine o_gD rfl rfl rfl rfl (decide_eq_false (by omega)) (zA rfl (o_gD rfl rfl rfl rfl (decide_eq_false (by omega)) (o_geq rfl rfl rfl (zQ rfl rfl (decide_eq_false (by omega)) ?_))))
      refine zA rfl (o_gD rfl rfl rfl rfl (decide_eq_false (by omega)) (zA rfl (o_gD rfl rfl rfl rfl (decide_eq_false (by omega)) (yu rfl wT rfl rfl (by omega) (by omega) cl4 ?_))))
      refine o_gD rfl rfl rfl rfl (decide_eq_false (by omega)) (zF rfl rfl rfl sh4 hat ?_)
      refine zQ rfl rfl (decide_eq_false (by omega)) ?_
      refine zB ?_
      refine zM [(1,.int .i64 many),(5,U.box 0 0),(7,.int .i64 x),(8,.lst .ro 1 (yc l)),(9,.int .i64 ↑(List.length l)),(10,.int .i64 ↑n),(17,.int .i64 x),(18,.int .i64 many),(19,U.bool (decide (many≤x))),(22,.int .i64 x),(23,U.box 0 (0+Int.toNat x*1)),(24,.bool true),(25,.bool true)] ([SB.box (bl8 (metB (List.take n l)))]) (.c4 rfl rfl rfl rfl (.c4 rfl rfl rfl rfl (.c4 rfl rfl rfl rfl (.cons rfl (.nil rfl))))) rfl fun fr=>?_
      refine k_cT rfl rfl ?_
      refine kQ (zC rfl (zB (ze ?_)))
      refine⟨.inr rfl,_,.cons _ _ _ _ (.tmp 4) .nil,?_⟩
      exact .refl _
     |false=>
      rw[h3]at hat
      have hlt:=bl8_lt hx8
      have hse:=bl8_set (metB (l.take n)) hx8 true
      refine kQ (zt rfl rfl rfl (zB (k_seq (k_cT rfl (decide_eq_true (by omega)) (zW (k_seq (zP (kQ ?_))))))))
      refine yr (u:=.int .i64 (x)) rfl ty29 rfl rfl (Int.natCast_nonneg _) (by simp[hx]) cl3 ?_
      refine yk rfl rfl sh3 rfl ?_
      refine zC rfl (zB (k_seq (kQ (zA rfl (zt rfl rfl rfl (zA rfl (o_gD rfl rfl rfl rfl (decide_eq_false (by omega)) (zA rfl ?_))))))))
      refine o_gD rfl rfl rfl rfl (decide_eq_false (by omega)) (zA rfl (o_gD rfl rfl rfl rfl (decide_eq_false (by omega)) (o_geq rfl rfl rfl (zQ rfl rfl (decide_eq_false (by omega)) ?_))))
      refine zA rfl (o_gD rfl rfl rfl rfl (decide_eq_false (by omega)) (zA rfl (o_gD rfl rfl rfl rfl (decide_eq_false (by omega)) (yu rfl wT rfl rfl (by omega) (by omega) cl4 ?_))))
      refine o_gD rfl rfl rfl rfl (decide_eq_false (by omega)) (zF rfl rfl rfl sh4 hat ?_)
      refine zQ rfl rfl (decide_eq_false (by omega)) ?_
      refine zB ?_
      refine zM [(1,.int .i64 many),(5,U.box 0 0),(7,.int .i64 x),(8,.lst .ro 1 (yc l)),(9,.int .i64 ↑(List.length l)),(10,.int .i64 ↑n),(17,.int .i64 x),(18,.int .i64 many),(19,U.bool (decide (many≤x))),(22,.int .i64 x),(23,U.box 0 (0+Int.toNat x*1)),(24,.bool false),(25,.bool false)] ([SB.box (bl8 (metB (List.take n l)))]) (.c4 rfl rfl rfl rfl (.c4 rfl rfl rfl rfl (.c4 rfl rfl rfl rfl (.cons rfl (.nil rfl))))) rfl fun fr=>?_
      refine k_cF rfl rfl ?_
      refine zW (k_region (zA rfl (yu rfl wT rfl rfl (by omega) (by omega) cl4 ?_)))
      refine o_store1 rfl rfl sh4 hlt rfl ?_
      refine zB ?_
      refine zM [(1,.int .i64 many),(5,U.box 0 0),(8,.lst .ro 1 (yc l)),(9,.int .i64 ↑(List.length l)),(10,.int .i64 ↑n),(17,.int .i64 x),(18,.int .i64 many),(19,U.bool (decide (many≤x))),(22,.int .i64 x),(23,U.box 0 (0+Int.toNat x*1)),(24,.bool false)] ([SB.box (List.set (bl8 (metB (List.take n l))) (0+Int.toNat x*1) (.bool true))]) (.c4 rfl rfl rfl rfl (.c4 rfl rfl rfl rfl (.c2 rfl rfl (.cons rfl (.nil rfl))))) rfl fun fr=>?_
      refine k_region ?_
      refine o_add rfl rfl rfl (by unfold I64;omega) (zA rfl (zB ?_))
      have hnin:x ∉ l.take n:=fun h4=>by
       have:=of_decide_eq_false h3
       rw[show((x.toNat:Nat):Int)=x by omega]at this
       exact this h4
      refine⟨k - 1,by omega,n+1,by omega,?_,?_,?_,.c4 rfl rfl rfl rfl (.cons rfl (.nil rfl))⟩
      ·rw[htk]
       exact List.nodup_append.2 ⟨hnd,by simp,fun a ha b hb=>by rcases List.mem_singleton.1 hb with rfl;exact fun e=>hnin (e ▸ ha)⟩
      ·rw[htk]
       intro y hy
       rcases List.mem_append.1 hy with hy|hy
       ·exact hrg y hy
       ·rcases List.mem_singleton.1 hy with rfl;omega
      ·show [SB.box ((bl8 (metB (l.take n))).set (0+x.toNat*1) (.bool true))]=_
       rw[hse,htk]
       refine congrArg (fun c=>[SB.box c]) (uW fun i hi=>?_)
       unfold updB metB
       by_cases e:i=x.toNat
       ·subst e
        rw[if_pos rfl]
        exact(decide_eq_true (by rw[show((x.toNat:Nat):Int)=x by omega];simp)).symm
       ·rw[if_neg e,decide_eq_decide,List.mem_append,List.mem_singleton]
        exact⟨.inl,fun h=>h.resolve_right (by omega)⟩
  ·have hn:n=l.length:=by omega
   subst hn
   rw[List.take_length]at hnd hrg
   have hf:difB l many=true:=decide_eq_true ⟨hnd,hrg⟩
   rw[hf]
   refine kQ (zt rfl rfl rfl (zB (k_seq (k_cF rfl (decide_eq_false (by omega)) (yp (kQ (zC rfl (zB ?_))))))))
   refine ze ?_
   refine⟨.inr rfl,_,.cons _ _ _ _ (.tmp 4) .nil,?_⟩
   exact .refl _
 ·exact⟨0,rfl,by simp,by simp,rfl,.c4 rfl rfl rfl rfl (.cons rfl (.nil rfl))⟩
def wG(q:Two):Bool:=wl q.a q.b 1 4000&&decide (q.b - q.a≤40)
theorem wE{a b lo hi:Int}:wl a b lo hi=true↔lo≤a∧a≤b∧b≤hi:=by
 unfold wl;simp[and_assoc]
set_option maxHeartbeats 4000000 in
theorem ret82(hi:Off is)(l:List Two):RetP Try.prog is orc 82 [.lst .ro 2 (zS l)] (.bool (decide (1≤l.length∧l.length≤8)&&l.all wG)):=by
 refine yQ body82 pure82 (hi 82 (by decide)) rfl rfl (y6 (wS l .ro (fun h=>by cases h) 6)) (.inl (.bool _ _)) ?_
 by_cases h1:l.length<1
 ·rw[show decide (1≤l.length∧l.length≤8)=false from decide_eq_false (by omega),Bool.false_and]
  refine kQ (zC rfl (zB (k_seq (kQ (zA rfl (yZ rfl ty22 rfl (List.length_map _) ?_))))))
  refine zt rfl rfl rfl (zA rfl (o_gS rfl rfl rfl rfl (decide_eq_true (by omega)) (o_gS rfl rfl rfl rfl (decide_eq_true (by omega)) (o_gS rfl rfl rfl rfl (decide_eq_true (by omega)) (zT rfl rfl (decide_eq_true (by omega)) ?_)))))
  refine zB (k_cT rfl rfl ?_)
  refine kQ (zC rfl (zB (ze ?_)))
  refine⟨.inr rfl,_,.cons _ _ _ _ (.tmp 2) .nil,?_⟩
  exact .refl _
 ·by_cases h2:l.length > 8
  ·rw[show decide (1≤l.length∧l.length≤8)=false from decide_eq_false (by omega),Bool.false_and]
   refine kQ (zC rfl (zB (k_seq (kQ (zA rfl (yZ rfl ty22 rfl (List.length_map _) ?_))))))
   refine zt rfl rfl rfl (zA rfl (o_gD rfl rfl rfl rfl (decide_eq_false (by omega)) (zA rfl (o_gD rfl rfl rfl rfl (decide_eq_false (by omega)) (yZ rfl ty22 rfl (List.length_map _) ?_)))))
   refine o_gD rfl rfl rfl rfl (decide_eq_false (by omega)) (o_gtr rfl rfl rfl (zQ rfl rfl (decide_eq_false (by omega)) ?_))
   refine zB (k_cT rfl (decide_eq_true (by omega)) (kQ (zC rfl (zB (ze ?_)))))
   refine⟨.inr rfl,_,.cons _ _ _ _ (.tmp 2) .nil,?_⟩
   exact .refl _
  ·rw[show decide (1≤l.length∧l.length≤8)=true from decide_eq_true (by omega),Bool.true_and]
   refine kQ (zC rfl (zB (k_seq (kQ (zA rfl (yZ rfl ty22 rfl (List.length_map _) ?_))))))
   refine zt rfl rfl rfl (zA rfl (o_gD rfl rfl rfl rfl (decide_eq_false (by omega)) (zA rfl (o_gD rfl rfl rfl rfl (decide_eq_false (by omega)) (yZ rfl ty22 rfl (List.length_map _) ?_)))))
   refine o_gD rfl rfl rfl rfl (decide_eq_false (by omega)) (o_gtr rfl rfl rfl (zQ rfl rfl (decide_eq_false (by omega)) ?_))
   refine zB (k_cF rfl (decide_eq_false (by omega)) (zW (k_seq (kQ (zA rfl (yZ rfl ty22 rfl (List.length_map _) ?_))))))
   refine zA rfl (zB ?_)
   refine zM [(13,.lst .ro 2 (zS l)),(14,.int .i64 ↑(List.length l)),(15,.int .i64 0)] ([]) (.c2 rfl rfl (.cons rfl (.nil rfl))) rfl fun fr=>?_
   refine zP ?_
   refine k_loop (fun k st=>∃n:Nat,k+n=l.length∧(l.take n).all wG=true∧Holds st [(13,.lst .ro 2 (zS l)),(14,.int .i64 l.length),(15,.int .i64 n)]) (fun k st hI=>?_) l.length _ ?_
   ·obtain⟨n,hk,hall,hs⟩:=hI
    generalize hst:st.st=Y
    refine zM _ _ hs hst fun fr=>?_
    by_cases hn:n<l.length
    ·obtain⟨q,hq⟩:∃q,l[n]? =some q:=⟨l[n],List.getElem?_eq_getElem hn⟩
     cases hg:wl q.a q.b 1 4000 with
     |false=>
      have e:l.all wG=false:=wN hq (by unfold wG;rw[hg];rfl)
      rw[e]
      have q85:=ret85 (orc:=orc) hi q.a q.b 1 4000
      rw[hg]at q85
      refine kQ (zt rfl rfl rfl (zB (k_seq (k_cT rfl (decide_eq_true (by omega)) (zW (k_seq (zP (kQ ?_))))))))
      refine yr (u:=(q).u) rfl ty22 rfl rfl (Int.natCast_nonneg _) (by simp[hq]) cl26 ?_
      refine yC rfl rfl sh26 rfl ?_
      refine zV rfl ze26 ?_
      refine zN rfl (za _ _) sh26 rfl rfl rfl rfl rfl ?_
      refine zB ?_
      refine zM [(4,.box (List.length Y) 0),(13,.lst .ro 2 (zS l)),(14,.int .i64 ↑(List.length l)),(15,.int .i64 ↑n)] (Y++[SB.box [.int .i64 q.a,.int .i64 q.b]]) (.c4 rfl rfl rfl rfl (.nil rfl)) (yN _ _ _) fun fr=>?_
      refine kQ (zK rfl rfl (za _ _) sh26 rfl ?_)
      refine zX rfl (q85) (.lrefl _) (o_not rfl rfl (zA rfl (o_gS rfl rfl rfl rfl rfl (o_gS rfl rfl rfl rfl rfl (o_gS rfl rfl rfl rfl rfl (o_gS rfl rfl rfl rfl rfl (o_gS rfl rfl rfl rfl rfl (o_gS rfl rfl rfl rfl rfl ?_))))))))
      refine zT rfl rfl rfl ?_
      refine zB (k_cT rfl rfl ?_)
      refine kQ (zC rfl (zB (ze ?_)))
      refine⟨.inr rfl,_,.cons _ _ _ _ (.tmp 2) .nil,?_⟩
      exact .refl _
     |true=>
      have hgt:=wE.1 hg
      have q85:=ret85 (orc:=orc) hi q.a q.b 1 4000
      rw[hg]at q85
      by_cases h4:q.b - q.a > 40
      ·have e:l.all wG=false:=wN hq (by unfold wG;rw[hg];simp;omega)
       rw[e]
       refine kQ (zt rfl rfl rfl (zB (k_seq (k_cT rfl (decide_eq_true (by omega)) (zW (k_seq (zP (kQ ?_))))))))
       refine yr (u:=(q).u) rfl ty22 rfl rfl (Int.natCast_nonneg _) (by simp[hq]) cl26 ?_
       refine yC rfl rfl sh26 rfl ?_
       refine zV rfl ze26 ?_
       refine zN rfl (za _ _) sh26 rfl rfl rfl rfl rfl ?_
       refine zB ?_
       refine zM [(4,.box (List.length Y) 0),(13,.lst .ro 2 (zS l)),(14,.int .i64 ↑(List.length l)),(15,.int .i64 ↑n)] (Y++[SB.box [.int .i64 q.a,.int .i64 q.b]]) (.c4 rfl rfl rfl rfl (.nil rfl)) (yN _ _ _) fun fr=>?_
       refine kQ (zK rfl rfl (za _ _) sh26 rfl ?_)
       refine zX rfl (q85) (.lrefl _) (o_not rfl rfl (zA rfl (o_gD rfl rfl rfl rfl rfl (zG rfl rfl yh (o_gD rfl rfl rfl rfl rfl (zF rfl rfl (za _ _) sh3 rfl ?_))))))
       refine o_gD rfl rfl rfl rfl rfl (zG rfl rfl yJ (o_gD rfl rfl rfl rfl rfl (zF rfl rfl (za _ _) sh3 rfl ?_)))
       refine o_gD rfl rfl rfl rfl rfl ?_
       refine o_sub rfl rfl rfl (by unfold I64;omega) (o_gD rfl rfl rfl rfl rfl (o_gtr rfl rfl rfl (zQ rfl rfl rfl ?_)))
       refine zB (k_cT rfl (decide_eq_true (by omega)) (kQ (zC rfl (zB (ze ?_)))))
       refine⟨.inr rfl,_,.cons _ _ _ _ (.tmp 2) .nil,?_⟩
       exact .refl _
      ·have hh:wG q=true:=by unfold wG;rw[hg];simp;omega
       refine kQ (zt rfl rfl rfl (zB (k_seq (k_cT rfl (decide_eq_true (by omega)) (zW (k_seq (zP (kQ ?_))))))))
       refine yr (u:=(q).u) rfl ty22 rfl rfl (Int.natCast_nonneg _) (by simp[hq]) cl26 ?_
       refine yC rfl rfl sh26 rfl ?_
       refine zV rfl ze26 ?_
       refine zN rfl (za _ _) sh26 rfl rfl rfl rfl rfl ?_
       refine zB ?_
       refine zM [(4,.box (List.length Y) 0),(13,.lst .ro 2 (zS l)),(14,.int .i64 ↑(List.length l)),(15,.int .i64 ↑n)] (Y++[SB.box [.int .i64 q.a,.int .i64 q.b]]) (.c4 rfl rfl rfl rfl (.nil rfl)) (yN _ _ _) fun fr=>?_
       refine kQ (zK rfl rfl (za _ _) sh26 rfl ?_)
       refine zX rfl (q85) (.lrefl _) (o_not rfl rfl (zA rfl (o_gD rfl rfl rfl rfl rfl (zG rfl rfl yh (o_gD rfl rfl rfl rfl rfl (zF rfl rfl (za _ _) sh3 rfl ?_))))))
       refine o_gD rfl rfl rfl rfl rfl (zG rfl rfl yJ (o_gD rfl rfl rfl rfl rfl (zF rfl rfl (za _ _) sh3 rfl ?_)))
       refine o_gD rfl rfl rfl rfl rfl ?_
       refine o_sub rfl rfl rfl (by unfold I64;omega) (o_gD rfl rfl rfl rfl rfl (o_gtr rfl rfl rfl (zQ rfl rfl rfl ?_)))
       refine zB (k_cF rfl (decide_eq_false (by omega)) (zW (k_region ?_)))
       refine o_add rfl rfl rfl (by unfold I64;omega) (zA rfl (zB ?_))
       exact⟨k - 1,by omega,n+1,by omega,wd hq hall hh,.c2 rfl rfl (.cons rfl (.nil rfl))⟩
    ·have hn:n=l.length:=by omega
     subst hn
     rw[List.take_length]at hall
     rw[hall]
     refine kQ (zt rfl rfl rfl (zB (k_seq (k_cF rfl (decide_eq_false (by omega)) (yp (kQ (zC rfl (zB ?_))))))))
     refine ze ?_
     refine⟨.inr rfl,_,.cons _ _ _ _ (.tmp 2) .nil,?_⟩
     exact .refl _
   ·exact⟨0,rfl,rfl,.c2 rfl rfl (.cons rfl (.nil rfl))⟩
end
end Go.Proofs.Ytinhcdijbcamaaa.tuneNarrower
