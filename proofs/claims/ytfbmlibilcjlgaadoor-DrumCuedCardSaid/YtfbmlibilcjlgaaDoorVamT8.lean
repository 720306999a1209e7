/- drum's functions, the specification's and the law's, by the logic of trees: what each gives back for all that it may be given. -/
import Derived.Test.YtfbmlibilcjlgaaDoorVamT7
set_option linter.unusedVariables false
set_option linter.unusedSimpArgs false
set_option linter.constructorNameAsVariable false
/-! ### drum: Cues; DrumCued -/
namespace Go.Proofs.YtfbmlibilcjlgaaDoor.drumCued
open Vam
variable {is:FuncId→Bool}{orc:Known}
-- 33 saron/drum.Cues params [27, 22] pure True
noncomputable def b33:Code:=(Tryd.f33.body).getD .skip
theorem body33:bodyOf Tryd.prog 33=some (20,b33,[.tmp 4,.tmp 5]):=by kernel_rfl
theorem pure33:pureFn Tryd.prog 33=true:=by kernel_rfl
-- 13 saron/saronlaw08.DrumCued params [27, 22] pure True
theorem fld73_0:fieldOf Tryd.prog 73 0=some (0,3):=by kernel_rfl
theorem fld73_1:fieldOf Tryd.prog 73 1=some (1,3):=by kernel_rfl
noncomputable def b13:Code:=(Tryd.f13.body).getD .skip
theorem body13:bodyOf Tryd.prog 13=some (104,b13,[.tmp 4]):=by kernel_rfl
theorem pure13:pureFn Tryd.prog 13=true:=by kernel_rfl
theorem ret33(hi:Off is){b:Bk}{L:List Int}(h:BOk b)(hp:POk b L):RetP Tryd.prog is orc 33 [b.u,.lst .ro 1 (intsU L)] (.tup [.lst .ro 2 (twosU (cuS b L (L.length - 1))),.int .i64 0]):=by
  refine ret_of body33 pure33 (hi 33 (by decide)) rfl rfl (dat_l2 (dat_bk b 4) (dat_ints 6 .ro (fun h=>by cases h) 1 L)) (.inr ⟨_,rfl,dat_l2 (k:=7) (dat_twos _ .ro (fun h=>by cases h) 5) (.int _ _ _)⟩) ?_
  refine k_seq (k_region ?_)
  refine o_box rfl rfl ?_
  refine o_assign rfl ?_
  refine o_assign rfl ?_
  refine o_nil ?_
  refine k_gen [(1,U.lst Kd.ro 1 (intsU L)),(2,U.box 0 0)] ([SB.box [.int .i64 (Bk.parts b),.int .i64 (Bk.size b),U.lst Kd.ro 1 (intsU (Bk.beats b)),.int .i64 (Bk.start b),.int .i64 (Bk.fin b),.int .i64 (Bk.tlo b),.int .i64 (Bk.thi b),.int .i64 (Bk.slo b),.int .i64 (Bk.shi b),.int .i64 (Bk.notice b),U.lst Kd.ro 3 (plsU (Bk.players b))]]) (.cons rfl (.cons rfl (.nil rfl))) rfl fun fr=>?_
  refine k_seq (k_region ?_)
  refine o_loadN rfl rfl rfl sh27 rfl ?_
  refine o_move rfl ?_
  refine o_call rfl (ret54 hi h hp) (.lrefl _) ?_
  refine o_move rfl ?_
  refine o_extract rfl rfl rfl ?_
  refine o_extract rfl rfl rfl ?_
  refine o_alloc rfl ze75 ?_
  refine o_storeN rfl rfl sh75 rfl rfl rfl rfl rfl ?_
  refine o_assign rfl ?_
  refine o_nil ?_
  refine k_gen [(1,U.lst Kd.ro 1 (intsU L)),(6,U.box 1 0),(7,.int .i64 0)] ([SB.box [.int .i64 (Bk.parts b),.int .i64 (Bk.size b),U.lst Kd.ro 1 (intsU (Bk.beats b)),.int .i64 (Bk.start b),.int .i64 (Bk.fin b),.int .i64 (Bk.tlo b),.int .i64 (Bk.thi b),.int .i64 (Bk.slo b),.int .i64 (Bk.shi b),.int .i64 (Bk.notice b),U.lst Kd.ro 3 (plsU (Bk.players b))],SB.box [.int .i64 (Bk.parts b),.int .i64 (Bk.size b),U.lst Kd.ro 1 (intsU (Bk.beats b)),.int .i64 (Bk.start b),.int .i64 (Bk.fin b),.int .i64 (Bk.tlo b),.int .i64 (Bk.thi b),.int .i64 (Bk.slo b),.int .i64 (Bk.shi b),.int .i64 (Bk.notice b),U.lst Kd.ro 3 (plsU (Bk.players b))]]) (.cons rfl (.cons rfl (.cons rfl (.nil rfl)))) rfl fun fr=>?_
  refine k_seq ?_
  refine k_seq (k_region ?_)
  refine o_move rfl ?_
  refine o_neq rfl rfl rfl ?_
  refine o_nil ?_
  refine k_cF rfl rfl ?_
  refine k_skip ?_
  refine k_seq (k_region ?_)
  refine o_loadN rfl rfl rfl sh75 rfl ?_
  refine o_move rfl ?_
  refine o_call rfl (ret80 hi h hp) (.lrefl _) ?_
  refine o_assign rfl ?_
  refine o_assign rfl ?_
  refine o_nil ?_
  refine k_ret ?_
  refine⟨.inr rfl,_,.cons _ _ _ _ (.tmp 4) (.cons _ _ _ _ (.tmp 5) .nil),?_⟩
  exact .refl _
theorem chol_ok{b:Bk}(h:BOk b)(bits:List Int):POk b (choL b bits b.parts.toNat):=by
  have hp:=h.pa
  refine⟨by rw[choL_len];omega,fun x hx=>?_,?_,fun i x y hx hy=>?_⟩
  · unfold choL at hx
    obtain⟨k,_,rfl⟩:=List.mem_map.1 hx
    exact choI_b h bits k
  · rw[choL_at (by omega)];rfl
  · have h2:=(List.getElem?_eq_some_iff.1 hy).1
    rw[choL_len]at h2
    rw[choL_at (by omega)]at hx hy
    cases hx;cases hy
    exact choI_n h bits i
theorem cuM_ne{b:Bk}{i:Nat}{x y:Int}(hn:x - 1≤y∧y≤x+1)(h:y≠x):cuM b i x y=[⟨((i:Int)+1)*b.size - b.notice,y - x⟩]:=by
  unfold cuM
  by_cases h1:x<y
  · rw[if_pos h1,if_neg (by omega),List.append_nil,show y - x=1 by omega]
  · rw[if_neg h1,if_pos (by omega),List.nil_append,show y - x= -1 by omega]
theorem cuM_eq{b:Bk}{i:Nat}{x:Int}:cuM b i x x=[]:=by
  unfold cuM
  rw[if_neg (by omega),if_neg (by omega)];rfl
def cuT(b:Bk)(p:Nat→Int)(i:Nat):Nat→List Two
  |0=>[]
  |k+1=>cuM b i (p i) (p (i+1))++cuT b p (i+1) k
theorem cuS_succ{b:Bk}{L:List Int}{p:Nat→Int}{i:Nat}(h:∀j,j≤i+1→L[j]? =some (p j)):cuS b L (i+1)=cuS b L i++cuM b i (p i) (p (i+1)):=by
  show cuS b L i++cuM b i ((L[i]?).getD 0) ((L[i+1]?).getD 0)=_
  rw[h i (by omega),h (i+1) (by omega)];rfl
theorem cuS_T{b:Bk}{L:List Int}{p:Nat→Int}:∀(k i:Nat),(∀j,j≤i+k→L[j]? =some (p j))→cuS b L (i+k)=cuS b L i++cuT b p i k:=by
  intro k
  induction k with
  |zero=>intro i _;show _=_++[];rw[List.append_nil];rfl
  |succ k ih=>
    intro i h
    rw[show i+(k+1)=(i+1)+k by omega,ih (i+1) (fun j hj=>h j (by omega)),cuS_succ (fun j hj=>h j (by omega)),List.append_assoc]
    rfl
theorem cuT_gt{b:Bk}(hs:1≤b.size){p:Nat→Int}:∀(k i:Nat),∀q∈cuT b p i k,((i:Int)+1)*b.size - b.notice≤q.a:=by
  intro k
  induction k with
  |zero=>intro i q hq;cases hq
  |succ k ih=>
    intro i q hq
    rcases List.mem_append.1 hq with hq|hq
    · unfold cuM at hq
      rcases List.mem_append.1 hq with hq|hq
      · split at hq
        · rcases List.mem_singleton.1 hq with rfl;exact Int.le_refl _
        · cases hq
      · split at hq
        · rcases List.mem_singleton.1 hq with rfl;exact Int.le_refl _
        · cases hq
    · have:=ih (i+1) q hq
      have e:(((i+1:Nat):Int)+1)*b.size=((i:Int)+1)*b.size+b.size:=by
        rw[show(((i+1:Nat):Int)+1)=((i:Int)+1)+1 by omega,Int.add_mul ((i:Int)+1),Int.one_mul]
      omega
theorem chg_len{b:Bk}{L:List Int}{p:Nat→Int}:∀(k:Nat),(∀j,j≤k→L[j]? =some (p j))→(∀j,p j - 1≤p (j+1)∧p (j+1)≤p j+1)→((cuS b L k).length:Int)=chgI p k:=by
  intro k
  induction k with
  |zero=>intro _ _;rfl
  |succ k ih=>
    intro h hn
    rw[cuS_succ h,List.length_append]
    have e:chgI p (k+1)=chgI p k+if p (k+1)=p k then 0 else 1:=rfl
    have:=ih (fun j hj=>h j (by omega)) hn
    rw[e]
    by_cases hq:p (k+1)=p k
    · rw[if_pos hq,hq,cuM_eq];show((_+0:Nat):Int)=_;omega
    · rw[if_neg hq,cuM_ne (hn k) hq];show((_+1:Nat):Int)=_;omega
set_option maxHeartbeats 16000000 in
theorem ret13(hi:Off is)(b:Bk)(bits:List Int)(r24:RetP Tryd.prog is orc 24 [] (.bool true)):RetP Tryd.prog is orc 13 [b.u,.lst .ro 1 (intsU bits)] (.bool true):=by
  have q38:=ret38 (orc:=orc) hi b
  refine ret_of body13 pure13 (hi 13 (by decide)) rfl rfl (dat_l2 (dat_bk b 4) (dat_ints 6 .ro (fun h=>by cases h) 1 bits)) (.inl (.bool _ _)) ?_
  cases hv:validB b with
  |false=>
    rw[hv]at q38
    refine k_seq (k_region ?_)
    refine o_box rfl rfl ?_
    refine o_assign rfl ?_
    refine o_nil ?_
    refine k_gen [(1,U.lst Kd.ro 1 (intsU bits)),(2,U.box 0 0)] ([SB.box [.int .i64 (Bk.parts b),.int .i64 (Bk.size b),U.lst Kd.ro 1 (intsU (Bk.beats b)),.int .i64 (Bk.start b),.int .i64 (Bk.fin b),.int .i64 (Bk.tlo b),.int .i64 (Bk.thi b),.int .i64 (Bk.slo b),.int .i64 (Bk.shi b),.int .i64 (Bk.notice b),U.lst Kd.ro 3 (plsU (Bk.players b))]]) (.cons rfl (.cons rfl (.nil rfl))) rfl fun fr=>?_
    refine k_seq ?_
    refine k_seq (k_region ?_)
    refine o_loadN rfl rfl rfl sh27 rfl ?_
    refine o_call rfl (q38) (.lrefl _) ?_
    refine o_not rfl rfl ?_
    refine o_nil ?_
    refine k_cT rfl rfl ?_
    refine k_seq (k_region ?_)
    refine o_call rfl (r24) (.lrefl _) ?_
    refine o_assign rfl ?_
    refine o_nil ?_
    refine k_ret ?_
    refine⟨.inr rfl,_,.cons _ _ _ _ (.tmp 4) .nil,?_⟩
    exact .refl _
  |true=>
    rw[hv]at q38
    have h:=(valid_iff b).1 hv
    have hpa:=h.pa
    have hsz:=h.sz
    have hno:=h.no
    have q43:=ret43 (orc:=orc) hi h bits
    have hok:=chol_ok h bits
    obtain⟨n,hn⟩:∃n:Nat,b.parts.toNat=n+1:=⟨b.parts.toNat - 1,by omega⟩
    have hlen:=choL_len b bits (n+1)
    have hat:∀j,j≤n→(choL b bits (n+1))[j]? =some (choI b bits j):=fun j hj=>choL_at (by omega)
    have q49:RetP Tryd.prog is orc 49 [.lst .ro 1 (intsU (choL b bits (n+1)))] (.int .i64 (chgI (choI b bits) n)):=ret49 hi (choI b bits) (n+1) (by omega)
    rw[hn]at q43 hok
    have q33:=ret33 (orc:=orc) hi h hok
    have hpb:=choI_b h bits
    have hpn:=choI_n h bits
    have hp0:choI b bits 0=b.start:=rfl
    generalize choI b bits=p at*
    generalize choL b bits (n+1)=L at*
    rw[hlen,Nat.add_sub_cancel]at q33
    have hcl:=chg_len (b:=b) n hat hpn
    have hcl2:=len_cuS b L n
    generalize hC:cuS b L n=C at*
    rw[←hcl]at q49
    refine k_seq (k_region ?_)
    refine o_box rfl rfl ?_
    refine o_assign rfl ?_
    refine o_nil ?_
    refine k_gen [(1,U.lst Kd.ro 1 (intsU bits)),(2,U.box 0 0)] ([SB.box [.int .i64 (Bk.parts b),.int .i64 (Bk.size b),U.lst Kd.ro 1 (intsU (Bk.beats b)),.int .i64 (Bk.start b),.int .i64 (Bk.fin b),.int .i64 (Bk.tlo b),.int .i64 (Bk.thi b),.int .i64 (Bk.slo b),.int .i64 (Bk.shi b),.int .i64 (Bk.notice b),U.lst Kd.ro 3 (plsU (Bk.players b))]]) (.cons rfl (.cons rfl (.nil rfl))) rfl fun fr=>?_
    refine k_seq ?_
    refine k_seq (k_region ?_)
    refine o_loadN rfl rfl rfl sh27 rfl ?_
    refine o_call rfl (q38) (.lrefl _) ?_
    refine o_not rfl rfl ?_
    refine o_nil ?_
    refine k_cF rfl rfl ?_
    refine k_skip ?_
    refine k_seq (k_region ?_)
    refine o_loadN rfl rfl rfl sh27 rfl ?_
    refine o_move rfl ?_
    refine o_call rfl (q43) (.lrefl _) ?_
    refine o_assign rfl ?_
    refine o_nil ?_
    refine k_seq (k_region ?_)
    refine o_loadN rfl rfl rfl sh27 rfl ?_
    refine o_move rfl ?_
    refine o_call rfl (q33) (.lrefl _) ?_
    refine o_move rfl ?_
    refine o_extract rfl rfl rfl ?_
    refine o_extract rfl rfl rfl ?_
    refine o_assign rfl ?_
    refine o_assign rfl ?_
    refine o_nil ?_
    refine k_gen [(2,U.box 0 0),(5,U.lst Kd.ro 1 (intsU L)),(6,U.lst Kd.ro 2 (twosU C)),(7,.int .i64 0)] ([SB.box [.int .i64 (Bk.parts b),.int .i64 (Bk.size b),U.lst Kd.ro 1 (intsU (Bk.beats b)),.int .i64 (Bk.start b),.int .i64 (Bk.fin b),.int .i64 (Bk.tlo b),.int .i64 (Bk.thi b),.int .i64 (Bk.slo b),.int .i64 (Bk.shi b),.int .i64 (Bk.notice b),U.lst Kd.ro 3 (plsU (Bk.players b))]]) (.cons rfl (.cons rfl (.cons rfl (.cons rfl (.nil rfl))))) rfl fun fr=>?_
    refine k_seq ?_
    refine k_seq (k_region ?_)
    refine o_move rfl ?_
    refine o_neq rfl rfl rfl ?_
    refine o_move rfl ?_
    refine o_gD rfl rfl rfl rfl rfl ?_
    refine o_move rfl ?_
    refine o_gD rfl rfl rfl rfl rfl ?_
    refine o_len rfl ty46 rfl (List.length_map _) ?_
    refine o_gD rfl rfl rfl rfl rfl ?_
    refine o_move rfl ?_
    refine o_gD rfl rfl rfl rfl rfl ?_
    refine o_call rfl (q49) (.lrefl _) ?_
    refine o_gD rfl rfl rfl rfl rfl ?_
    refine o_neq rfl rfl rfl ?_
    refine o_pickF rfl rfl rfl ?_
    refine o_nil ?_
    refine k_cF rfl (decide_eq_false (by omega)) ?_
    refine k_skip ?_
    refine k_seq (k_region ?_)
    refine o_faddr rfl rfl fld27_3 ?_
    refine o_load1 rfl rfl rfl sh3 rfl ?_
    refine o_assign rfl ?_
    refine o_assign rfl ?_
    refine o_nil ?_
    refine k_gen [(2,U.box 0 0),(5,U.lst Kd.ro 1 (intsU L)),(6,U.lst Kd.ro 2 (twosU C)),(8,.int .i64 (Bk.start b)),(9,.int .i64 0)] ([SB.box [.int .i64 (Bk.parts b),.int .i64 (Bk.size b),U.lst Kd.ro 1 (intsU (Bk.beats b)),.int .i64 (Bk.start b),.int .i64 (Bk.fin b),.int .i64 (Bk.tlo b),.int .i64 (Bk.thi b),.int .i64 (Bk.slo b),.int .i64 (Bk.shi b),.int .i64 (Bk.notice b),U.lst Kd.ro 3 (plsU (Bk.players b))]]) (.cons rfl (.cons rfl (.cons rfl (.cons rfl (.cons rfl (.nil rfl)))))) rfl fun fr=>?_
    refine k_seq ?_
    refine k_seq (k_region ?_)
    refine o_assign rfl ?_
    refine o_nil ?_
    refine k_block ?_
    refine k_loop (fun kk s2=>∃i:Nat,kk+i=n∧s2.st=[.box [.int .i64 b.parts,.int .i64 b.size,.lst .ro 1 (intsU b.beats),.int .i64 b.start,.int .i64 b.fin,.int .i64 b.tlo,.int .i64 b.thi,.int .i64 b.slo,.int .i64 b.shi,.int .i64 b.notice,.lst .ro 3 (plsU b.players)]]∧Holds s2 [(2,.box 0 0),(5,.lst .ro 1 (intsU L)),(6,.lst .ro 2 (twosU C)),(8,.int .i64 (p i)),(9,.int .i64 (cuS b L i).length),(10,.int .i64 (i+1))]) (fun kk s2 hI=>?_) n _ ⟨0,by omega,rfl,.cons rfl (.cons rfl (.cons rfl (.cons (by show U.int .i64 b.start=_;rw[hp0]) (.cons rfl (.cons rfl (.nil rfl))))))⟩
    obtain⟨i,hk,hst2,hs2⟩:=hI
    refine k_gen _ _ hs2 hst2 fun fr2=>?_
    have hpi:=hpb i
    have hls:=len_cuS b L i
    by_cases hin:i<n
    · have hx:=hat (i+1) (by omega)
      have hpj:=hpb (i+1)
      have hpij:=hpn i
      obtain⟨m,hm⟩:∃m,n=i+(m+1):=⟨n - i - 1,by omega⟩
      have e:C=cuS b L i++(cuM b i (p i) (p (i+1))++cuT b p (i+1) m):=by
        rw[←hC,hm];exact cuS_T (m+1) i (fun j hj=>hat j (by omega))
      have es:cuS b L (i+1)=cuS b L i++cuM b i (p i) (p (i+1)):=cuS_succ (fun j hj=>hat j (by omega))
      have gt:=cuT_gt (b:=b) hsz.1 (p:=p) m (i+1)
      have emul:(((i+1:Nat):Int)+1)*b.size=((i:Int)+1)*b.size+b.size:=by
        rw[show(((i+1:Nat):Int)+1)=((i:Int)+1)+1 by omega,Int.add_mul ((i:Int)+1),Int.one_mul]
      rw[emul]at gt
      have hmu:b.size≤((i:Int)+1)*b.size∧((i:Int)+1)*b.size≤128:=by
        constructor
        · have:=Int.mul_le_mul (show(1:Int)≤(i:Int)+1 by omega) (Int.le_refl b.size) (by omega) (by omega)
          omega
        · have:=Int.mul_le_mul (show(i:Int)+1≤8 by omega) hsz.2 (by omega) (by omega)
          omega
      generalize hpe:p (i+1)=y at*
      generalize p i=x at*
      by_cases hq:y=x
      · subst hq
        rw[cuM_eq,List.nil_append]at e
        rw[cuM_eq,List.append_nil]at es
        generalize cuS b L i=S at*
        cases hT:cuT b p (i+1) m with
        |nil=>
          rw[hT,List.append_nil]at e
          subst e
          refine k_seq ?_
          refine k_seq (k_region ?_)
          refine o_move rfl ?_
          refine o_faddr rfl rfl fld27_0 ?_
          refine o_load1 rfl rfl rfl sh3 rfl ?_
          refine o_lss rfl rfl rfl ?_
          refine o_nil ?_
          refine k_cT rfl (decide_eq_true (by omega)) ?_
          refine k_skip ?_
          refine k_seq ?_
          refine k_block ?_
          refine k_seq ?_
          refine k_seq ?_
          refine k_draw [.plain,.plain,.plain,.plain,.plain,.plain,.plain,.plain,.plain,.read true,.plain,.plain,.read true,.plain,.plain,.read true,.plain,.plain,.plain] (by kernel_rfl) (by kernel_rfl) (by kernel_rfl) ?_
          refine d_plain (o_move rfl (o_nil rfl)) ?_
          refine d_plain (o_move rfl (o_nil rfl)) ?_
          refine d_plain (o_len rfl ty46 rfl (List.length_map _) (o_nil rfl)) ?_
          refine d_plain (o_lss rfl rfl rfl (o_nil rfl)) ?_
          refine d_plain (o_move rfl (o_nil rfl)) ?_
          refine d_gS rfl rfl rfl rfl (decide_eq_false (by omega)) ?_
          refine d_gS rfl rfl rfl rfl (decide_eq_false (by omega)) ?_
          refine d_gS rfl rfl rfl rfl (decide_eq_false (by omega)) ?_
          refine d_gS rfl rfl rfl rfl (decide_eq_false (by omega)) ?_
          refine d_gS rfl rfl rfl rfl (decide_eq_false (by omega)) ?_
          refine d_gS rfl rfl rfl rfl (decide_eq_false (by omega)) ?_
          refine d_gS rfl rfl rfl rfl (decide_eq_false (by omega)) ?_
          refine d_gS rfl rfl rfl rfl (decide_eq_false (by omega)) ?_
          refine d_gS rfl rfl rfl rfl (decide_eq_false (by omega)) ?_
          refine d_gS rfl rfl rfl rfl (decide_eq_false (by omega)) ?_
          refine d_gS rfl rfl rfl rfl (decide_eq_false (by omega)) ?_
          refine d_gS rfl rfl rfl rfl (decide_eq_false (by omega)) ?_
          refine d_gS rfl rfl rfl rfl (decide_eq_false (by omega)) ?_
          refine d_plain (o_pickF rfl rfl (decide_eq_false (by omega)) (o_nil rfl)) ?_
          refine d_nil ?_
          refine k_gen [(2,U.box 0 0),(5,U.lst Kd.ro 1 (intsU L)),(6,U.lst Kd.ro 2 (twosU C)),(8,.int .i64 y),(9,.int .i64 ↑(List.length C)),(10,.int .i64 (↑i+(1:Int))),(46,U.tup []),(47,U.tup []),(48,U.tup []),(49,U.tup []),(50,U.tup []),(51,U.tup []),(52,U.tup []),(53,U.tup []),(54,U.tup []),(55,U.tup []),(56,U.tup []),(57,U.tup []),(58,U.tup []),(59,U.bool Bool.false)] ([SB.box [.int .i64 (Bk.parts b),.int .i64 (Bk.size b),U.lst Kd.ro 1 (intsU (Bk.beats b)),.int .i64 (Bk.start b),.int .i64 (Bk.fin b),.int .i64 (Bk.tlo b),.int .i64 (Bk.thi b),.int .i64 (Bk.slo b),.int .i64 (Bk.shi b),.int .i64 (Bk.notice b),U.lst Kd.ro 3 (plsU (Bk.players b))]]) (.cons rfl (.cons rfl (.cons rfl (.cons rfl (.cons rfl (.cons rfl (.cons rfl (.cons rfl (.cons rfl (.cons rfl (.cons rfl (.cons rfl (.cons rfl (.cons rfl (.cons rfl (.cons rfl (.cons rfl (.cons rfl (.cons rfl (.cons rfl (.nil rfl))))))))))))))))))))) rfl fun fr=>?_
          refine k_cF rfl rfl ?_
          refine k_skip ?_
          refine k_seq (k_region ?_)
          refine o_move rfl ?_
          refine o_move rfl ?_
          refine o_move rfl ?_
          refine o_idx (u:=.int .i64 (y)) rfl ty22 rfl rfl (Int.natCast_nonneg _) (by simp[hx]) cl3 ?_
          refine o_loadR1 rfl rfl sh3 rfl ?_
          refine o_neq rfl rfl rfl ?_
          refine o_nil ?_
          refine k_cF rfl (decide_eq_false (by omega)) ?_
          refine k_skip ?_
          refine k_region ?_
          refine o_move rfl ?_
          refine o_add rfl rfl rfl (by unfold I64;omega) ?_
          refine o_assign rfl ?_
          refine o_nil ?_
          exact⟨kk - 1,by omega,i+1,by omega,rfl,.cons rfl (.cons rfl (.cons rfl (.cons (by rw[hpe];rfl) (.cons (by rw[es];rfl) (.cons rfl (.nil rfl))))))⟩
        |cons q T=>
          have hg:=gt q (by rw[hT];exact List.mem_cons_self)
          rw[hT]at e
          have hCq:C[S.length]? =some q:=by rw[e];simp
          have hCl:S.length<C.length:=(List.getElem?_eq_some_iff.1 hCq).1
          have hne: ¬ (q.a=((i:Int)+1)*b.size - b.notice):=by omega
          refine k_seq ?_
          refine k_seq (k_region ?_)
          refine o_move rfl ?_
          refine o_faddr rfl rfl fld27_0 ?_
          refine o_load1 rfl rfl rfl sh3 rfl ?_
          refine o_lss rfl rfl rfl ?_
          refine o_nil ?_
          refine k_cT rfl (decide_eq_true (by omega)) ?_
          refine k_skip ?_
          refine k_seq ?_
          refine k_block ?_
          refine k_seq ?_
          refine k_seq ?_
          refine k_draw [.plain,.plain,.plain,.plain,.plain,.plain,.plain,.plain,.plain,.read true,.plain,.plain,.read true,.plain,.plain,.read true,.plain,.plain,.plain] (by kernel_rfl) (by kernel_rfl) (by kernel_rfl) ?_
          refine d_plain (o_move rfl (o_nil rfl)) ?_
          refine d_plain (o_move rfl (o_nil rfl)) ?_
          refine d_plain (o_len rfl ty46 rfl (List.length_map _) (o_nil rfl)) ?_
          refine d_plain (o_lss rfl rfl rfl (o_nil rfl)) ?_
          refine d_plain (o_move rfl (o_nil rfl)) ?_
          refine d_gD rfl rfl rfl rfl (decide_eq_true (by omega)) ?_
          refine d_plain (o_move rfl (o_nil rfl)) ?_
          refine d_gD rfl rfl rfl rfl (decide_eq_true (by omega)) ?_
          refine d_plain (o_move rfl (o_nil rfl)) ?_
          refine d_gD rfl rfl rfl rfl (decide_eq_true (by omega)) ?_
          refine d_plain (o_idx (u:=(q).u) rfl ty46 rfl rfl (Int.natCast_nonneg _) (by simp[hCq]) cl73 (o_nil rfl)) ?_
          refine d_gD rfl rfl rfl rfl (decide_eq_true (by omega)) ?_
          refine d_plain (o_faddrR rfl rfl fld73_0 (o_nil rfl)) ?_
          refine d_gD rfl rfl rfl rfl (decide_eq_true (by omega)) ?_
          refine d_load rfl (o_loadR1 rfl rfl sh3 rfl (o_nil rfl)) ?_
          refine d_gD rfl rfl rfl rfl (decide_eq_true (by omega)) ?_
          refine d_plain (o_move rfl (o_nil rfl)) ?_
          refine d_gD rfl rfl rfl rfl (decide_eq_true (by omega)) ?_
          refine d_plain (o_faddr rfl rfl fld27_1 (o_nil rfl)) ?_
          refine d_gD rfl rfl rfl rfl (decide_eq_true (by omega)) ?_
          refine d_load rfl (o_load1 rfl rfl rfl sh3 rfl (o_nil rfl)) ?_
          refine d_gD rfl rfl rfl rfl (decide_eq_true (by omega)) ?_
          refine d_plain (o_mul rfl rfl rfl (by unfold I64;omega) (o_nil rfl)) ?_
          refine d_gD rfl rfl rfl rfl (decide_eq_true (by omega)) ?_
          refine d_plain (o_faddr rfl rfl fld27_7 (o_nil rfl)) ?_
          refine d_gD rfl rfl rfl rfl (decide_eq_true (by omega)) ?_
          refine d_load rfl (o_load1 rfl rfl rfl sh3 rfl (o_nil rfl)) ?_
          refine d_gD rfl rfl rfl rfl (decide_eq_true (by omega)) ?_
          refine d_plain (o_sub rfl rfl rfl (by unfold I64;omega) (o_nil rfl)) ?_
          refine d_gD rfl rfl rfl rfl (decide_eq_true (by omega)) ?_
          refine d_plain (o_eql rfl rfl rfl (o_nil rfl)) ?_
          refine d_plain (o_pickT rfl rfl (decide_eq_true (by omega)) (o_nil rfl)) ?_
          refine d_nil ?_
          refine k_gen [(2,U.box 0 0),(5,U.lst Kd.ro 1 (intsU L)),(6,U.lst Kd.ro 2 (twosU C)),(8,.int .i64 y),(9,.int .i64 ↑(List.length S)),(10,.int .i64 (↑i+(1:Int))),(46,U.lst Kd.ro 2 (twosU C)),(47,.int .i64 ↑(List.length S)),(48,U.eref [.int .i64 (Two.a q),.int .i64 (Two.b q)] 0),(49,U.eref [.int .i64 (Two.a q),.int .i64 (Two.b q)] 0),(50,.int .i64 (Two.a q)),(51,.int .i64 (↑i+(1:Int))),(52,U.box 0 1),(53,.int .i64 (Bk.size b)),(54,.int .i64 ((↑i+(1:Int))*Bk.size b)),(55,U.box 0 9),(56,.int .i64 (Bk.notice b)),(57,.int .i64 ((↑i+(1:Int))*Bk.size b - Bk.notice b)),(58,U.bool (Decidable.decide (Two.a q=(↑i+(1:Int))*Bk.size b - Bk.notice b))),(59,U.bool (Decidable.decide (Two.a q=(↑i+(1:Int))*Bk.size b - Bk.notice b)))] ([SB.box [.int .i64 (Bk.parts b),.int .i64 (Bk.size b),U.lst Kd.ro 1 (intsU (Bk.beats b)),.int .i64 (Bk.start b),.int .i64 (Bk.fin b),.int .i64 (Bk.tlo b),.int .i64 (Bk.thi b),.int .i64 (Bk.slo b),.int .i64 (Bk.shi b),.int .i64 (Bk.notice b),U.lst Kd.ro 3 (plsU (Bk.players b))]]) (.cons rfl (.cons rfl (.cons rfl (.cons rfl (.cons rfl (.cons rfl (.cons rfl (.cons rfl (.cons rfl (.cons rfl (.cons rfl (.cons rfl (.cons rfl (.cons rfl (.cons rfl (.cons rfl (.cons rfl (.cons rfl (.cons rfl (.cons rfl (.nil rfl))))))))))))))))))))) rfl fun fr=>?_
          refine k_cF rfl (decide_eq_false hne) ?_
          refine k_skip ?_
          refine k_seq (k_region ?_)
          refine o_move rfl ?_
          refine o_move rfl ?_
          refine o_move rfl ?_
          refine o_idx (u:=.int .i64 (y)) rfl ty22 rfl rfl (Int.natCast_nonneg _) (by simp[hx]) cl3 ?_
          refine o_loadR1 rfl rfl sh3 rfl ?_
          refine o_neq rfl rfl rfl ?_
          refine o_nil ?_
          refine k_cF rfl (decide_eq_false (by omega)) ?_
          refine k_skip ?_
          refine k_region ?_
          refine o_move rfl ?_
          refine o_add rfl rfl rfl (by unfold I64;omega) ?_
          refine o_assign rfl ?_
          refine o_nil ?_
          exact⟨kk - 1,by omega,i+1,by omega,rfl,.cons rfl (.cons rfl (.cons rfl (.cons (by rw[hpe];rfl) (.cons (by rw[es];rfl) (.cons rfl (.nil rfl))))))⟩
      · rw[cuM_ne hpij hq]at e es
        generalize cuS b L i=S at*
        obtain⟨q,hCq,hqa,hqb⟩:∃q,C[S.length]? =some q∧q.a=((i:Int)+1)*b.size - b.notice∧q.b=y - x:=⟨⟨((i:Int)+1)*b.size - b.notice,y - x⟩,by rw[e];simp,rfl,rfl⟩
        have hCl:S.length<C.length:=(List.getElem?_eq_some_iff.1 hCq).1
        have hne:q.a=((i:Int)+1)*b.size - b.notice:=hqa
        have hyx:q.b=1∨q.b= -1:=by omega
        rcases hyx with hyx|hyx
        · refine k_seq ?_
          refine k_seq (k_region ?_)
          refine o_move rfl ?_
          refine o_faddr rfl rfl fld27_0 ?_
          refine o_load1 rfl rfl rfl sh3 rfl ?_
          refine o_lss rfl rfl rfl ?_
          refine o_nil ?_
          refine k_cT rfl (decide_eq_true (by omega)) ?_
          refine k_skip ?_
          refine k_seq ?_
          refine k_block ?_
          refine k_seq ?_
          refine k_seq ?_
          refine k_draw [.plain,.plain,.plain,.plain,.plain,.plain,.plain,.plain,.plain,.read true,.plain,.plain,.read true,.plain,.plain,.read true,.plain,.plain,.plain] (by kernel_rfl) (by kernel_rfl) (by kernel_rfl) ?_
          refine d_plain (o_move rfl (o_nil rfl)) ?_
          refine d_plain (o_move rfl (o_nil rfl)) ?_
          refine d_plain (o_len rfl ty46 rfl (List.length_map _) (o_nil rfl)) ?_
          refine d_plain (o_lss rfl rfl rfl (o_nil rfl)) ?_
          refine d_plain (o_move rfl (o_nil rfl)) ?_
          refine d_gD rfl rfl rfl rfl (decide_eq_true (by omega)) ?_
          refine d_plain (o_move rfl (o_nil rfl)) ?_
          refine d_gD rfl rfl rfl rfl (decide_eq_true (by omega)) ?_
          refine d_plain (o_move rfl (o_nil rfl)) ?_
          refine d_gD rfl rfl rfl rfl (decide_eq_true (by omega)) ?_
          refine d_plain (o_idx (u:=(q).u) rfl ty46 rfl rfl (Int.natCast_nonneg _) (by simp[hCq]) cl73 (o_nil rfl)) ?_
          refine d_gD rfl rfl rfl rfl (decide_eq_true (by omega)) ?_
          refine d_plain (o_faddrR rfl rfl fld73_0 (o_nil rfl)) ?_
          refine d_gD rfl rfl rfl rfl (decide_eq_true (by omega)) ?_
          refine d_load rfl (o_loadR1 rfl rfl sh3 rfl (o_nil rfl)) ?_
          refine d_gD rfl rfl rfl rfl (decide_eq_true (by omega)) ?_
          refine d_plain (o_move rfl (o_nil rfl)) ?_
          refine d_gD rfl rfl rfl rfl (decide_eq_true (by omega)) ?_
          refine d_plain (o_faddr rfl rfl fld27_1 (o_nil rfl)) ?_
          refine d_gD rfl rfl rfl rfl (decide_eq_true (by omega)) ?_
          refine d_load rfl (o_load1 rfl rfl rfl sh3 rfl (o_nil rfl)) ?_
          refine d_gD rfl rfl rfl rfl (decide_eq_true (by omega)) ?_
          refine d_plain (o_mul rfl rfl rfl (by unfold I64;omega) (o_nil rfl)) ?_
          refine d_gD rfl rfl rfl rfl (decide_eq_true (by omega)) ?_
          refine d_plain (o_faddr rfl rfl fld27_7 (o_nil rfl)) ?_
          refine d_gD rfl rfl rfl rfl (decide_eq_true (by omega)) ?_
          refine d_load rfl (o_load1 rfl rfl rfl sh3 rfl (o_nil rfl)) ?_
          refine d_gD rfl rfl rfl rfl (decide_eq_true (by omega)) ?_
          refine d_plain (o_sub rfl rfl rfl (by unfold I64;omega) (o_nil rfl)) ?_
          refine d_gD rfl rfl rfl rfl (decide_eq_true (by omega)) ?_
          refine d_plain (o_eql rfl rfl rfl (o_nil rfl)) ?_
          refine d_plain (o_pickT rfl rfl (decide_eq_true (by omega)) (o_nil rfl)) ?_
          refine d_nil ?_
          refine k_gen [(2,U.box 0 0),(5,U.lst Kd.ro 1 (intsU L)),(6,U.lst Kd.ro 2 (twosU C)),(8,.int .i64 x),(9,.int .i64 ↑(List.length S)),(10,.int .i64 (↑i+(1:Int))),(46,U.lst Kd.ro 2 (twosU C)),(47,.int .i64 ↑(List.length S)),(48,U.eref [.int .i64 (Two.a q),.int .i64 (Two.b q)] 0),(49,U.eref [.int .i64 (Two.a q),.int .i64 (Two.b q)] 0),(50,.int .i64 (Two.a q)),(51,.int .i64 (↑i+(1:Int))),(52,U.box 0 1),(53,.int .i64 (Bk.size b)),(54,.int .i64 ((↑i+(1:Int))*Bk.size b)),(55,U.box 0 9),(56,.int .i64 (Bk.notice b)),(57,.int .i64 ((↑i+(1:Int))*Bk.size b - Bk.notice b)),(58,U.bool (Decidable.decide (Two.a q=(↑i+(1:Int))*Bk.size b - Bk.notice b))),(59,U.bool (Decidable.decide (Two.a q=(↑i+(1:Int))*Bk.size b - Bk.notice b)))] ([SB.box [.int .i64 (Bk.parts b),.int .i64 (Bk.size b),U.lst Kd.ro 1 (intsU (Bk.beats b)),.int .i64 (Bk.start b),.int .i64 (Bk.fin b),.int .i64 (Bk.tlo b),.int .i64 (Bk.thi b),.int .i64 (Bk.slo b),.int .i64 (Bk.shi b),.int .i64 (Bk.notice b),U.lst Kd.ro 3 (plsU (Bk.players b))]]) (.cons rfl (.cons rfl (.cons rfl (.cons rfl (.cons rfl (.cons rfl (.cons rfl (.cons rfl (.cons rfl (.cons rfl (.cons rfl (.cons rfl (.cons rfl (.cons rfl (.cons rfl (.cons rfl (.cons rfl (.cons rfl (.cons rfl (.cons rfl (.nil rfl))))))))))))))))))))) rfl fun fr=>?_
          refine k_cT rfl (decide_eq_true hne) ?_
          refine k_seq ?_
          refine k_seq (k_region ?_)
          refine o_move rfl ?_
          refine o_move rfl ?_
          refine o_idx (u:=(q).u) rfl ty46 rfl rfl (Int.natCast_nonneg _) (by simp[hCq]) cl73 ?_
          refine o_faddrR rfl rfl fld73_0 ?_
          refine o_loadR1 rfl rfl sh3 rfl ?_
          refine o_lss rfl rfl rfl ?_
          refine o_move rfl ?_
          refine o_gD rfl rfl rfl rfl (decide_eq_false (by omega)) ?_
          refine o_move rfl ?_
          refine o_gD rfl rfl rfl rfl (decide_eq_false (by omega)) ?_
          refine o_move rfl ?_
          refine o_genA [(2,U.box 0 0),(5,U.lst Kd.ro 1 (intsU L)),(6,U.lst Kd.ro 2 (twosU C)),(8,.int .i64 x),(9,.int .i64 ↑(List.length S)),(10,.int .i64 (↑i+(1:Int))),(46,U.lst Kd.ro 2 (twosU C)),(47,.int .i64 ↑(List.length S)),(48,U.eref [.int .i64 (Two.a q),.int .i64 (Two.b q)] 0),(49,U.eref [.int .i64 (Two.a q),.int .i64 (Two.b q)] 0),(50,.int .i64 (Two.a q)),(51,.int .i64 (↑i+(1:Int))),(52,U.box 0 1),(53,.int .i64 (Bk.size b)),(54,.int .i64 ((↑i+(1:Int))*Bk.size b)),(55,U.box 0 9),(56,.int .i64 (Bk.notice b)),(57,.int .i64 ((↑i+(1:Int))*Bk.size b - Bk.notice b)),(58,U.bool (Decidable.decide (Two.a q=(↑i+(1:Int))*Bk.size b - Bk.notice b))),(66,U.bool (Decidable.decide (Two.a q<(0:Int)))),(67,U.lst Kd.ro 2 (twosU C)),(68,.int .i64 ↑(List.length S))] [] ([SB.box [.int .i64 (Bk.parts b),.int .i64 (Bk.size b),U.lst Kd.ro 1 (intsU (Bk.beats b)),.int .i64 (Bk.start b),.int .i64 (Bk.fin b),.int .i64 (Bk.tlo b),.int .i64 (Bk.thi b),.int .i64 (Bk.slo b),.int .i64 (Bk.shi b),.int .i64 (Bk.notice b),U.lst Kd.ro 3 (plsU (Bk.players b))]]) (.cons rfl (.cons rfl (.cons rfl (.cons rfl (.cons rfl (.cons rfl (.cons rfl (.cons rfl (.cons rfl (.cons rfl (.cons rfl (.cons rfl (.cons rfl (.cons rfl (.cons rfl (.cons rfl (.cons rfl (.cons rfl (.cons rfl (.cons rfl (.cons rfl (.cons rfl (.nil rfl))))))))))))))))))))))) rfl rfl fun fr=>?_
          refine o_gD rfl rfl rfl rfl (decide_eq_false (by omega)) ?_
          refine o_genA [(2,U.box 0 0),(5,U.lst Kd.ro 1 (intsU L)),(6,U.lst Kd.ro 2 (twosU C)),(8,.int .i64 x),(9,.int .i64 ↑(List.length S)),(10,.int .i64 (↑i+(1:Int))),(46,U.lst Kd.ro 2 (twosU C)),(47,.int .i64 ↑(List.length S)),(48,U.eref [.int .i64 (Two.a q),.int .i64 (Two.b q)] 0),(49,U.eref [.int .i64 (Two.a q),.int .i64 (Two.b q)] 0),(50,.int .i64 (Two.a q)),(51,.int .i64 (↑i+(1:Int))),(52,U.box 0 1),(53,.int .i64 (Bk.size b)),(54,.int .i64 ((↑i+(1:Int))*Bk.size b)),(55,U.box 0 9),(56,.int .i64 (Bk.notice b)),(57,.int .i64 ((↑i+(1:Int))*Bk.size b - Bk.notice b)),(58,U.bool (Decidable.decide (Two.a q=(↑i+(1:Int))*Bk.size b - Bk.notice b))),(66,U.bool (Decidable.decide (Two.a q<(0:Int)))),(67,U.lst Kd.ro 2 (twosU C)),(68,.int .i64 ↑(List.length S))] [] ([SB.box [.int .i64 (Bk.parts b),.int .i64 (Bk.size b),U.lst Kd.ro 1 (intsU (Bk.beats b)),.int .i64 (Bk.start b),.int .i64 (Bk.fin b),.int .i64 (Bk.tlo b),.int .i64 (Bk.thi b),.int .i64 (Bk.slo b),.int .i64 (Bk.shi b),.int .i64 (Bk.notice b),U.lst Kd.ro 3 (plsU (Bk.players b))]]) (.cons rfl (.cons rfl (.cons rfl (.cons rfl (.cons rfl (.cons rfl (.cons rfl (.cons rfl (.cons rfl (.cons rfl (.cons rfl (.cons rfl (.cons rfl (.cons rfl (.cons rfl (.cons rfl (.cons rfl (.cons rfl (.cons rfl (.cons rfl (.cons rfl (.cons rfl (.nil rfl))))))))))))))))))))))) rfl rfl fun fr=>?_
          refine o_idx (u:=(q).u) rfl ty46 rfl rfl (Int.natCast_nonneg _) (by simp[hCq]) cl73 ?_
          refine o_gD rfl rfl rfl rfl (decide_eq_false (by omega)) ?_
          refine o_faddrR rfl rfl fld73_1 ?_
          refine o_gD rfl rfl rfl rfl (decide_eq_false (by omega)) ?_
          refine o_loadR1 rfl rfl sh3 rfl ?_
          refine o_gD rfl rfl rfl rfl (decide_eq_false (by omega)) ?_
          refine o_neq rfl rfl rfl ?_
          refine o_gD rfl rfl rfl rfl (decide_eq_false (by omega)) ?_
          refine o_move rfl ?_
          refine o_gS rfl rfl rfl rfl (decide_eq_false (by omega)) ?_
          refine o_gS rfl rfl rfl rfl (decide_eq_false (by omega)) ?_
          refine o_gS rfl rfl rfl rfl (decide_eq_false (by omega)) ?_
          refine o_gS rfl rfl rfl rfl (decide_eq_false (by omega)) ?_
          refine o_genA [(2,U.box 0 0),(5,U.lst Kd.ro 1 (intsU L)),(6,U.lst Kd.ro 2 (twosU C)),(8,.int .i64 x),(9,.int .i64 ↑(List.length S)),(10,.int .i64 (↑i+(1:Int))),(46,U.lst Kd.ro 2 (twosU C)),(47,.int .i64 ↑(List.length S)),(48,U.eref [.int .i64 (Two.a q),.int .i64 (Two.b q)] 0),(49,U.eref [.int .i64 (Two.a q),.int .i64 (Two.b q)] 0),(50,.int .i64 (Two.a q)),(51,.int .i64 (↑i+(1:Int))),(52,U.box 0 1),(53,.int .i64 (Bk.size b)),(54,.int .i64 ((↑i+(1:Int))*Bk.size b)),(55,U.box 0 9),(56,.int .i64 (Bk.notice b)),(57,.int .i64 ((↑i+(1:Int))*Bk.size b - Bk.notice b)),(58,U.bool (Decidable.decide (Two.a q=(↑i+(1:Int))*Bk.size b - Bk.notice b))),(66,U.bool (Decidable.decide (Two.a q<(0:Int)))),(67,U.lst Kd.ro 2 (twosU C)),(68,.int .i64 ↑(List.length S)),(69,U.eref [.int .i64 (Two.a q),.int .i64 (Two.b q)] 0),(70,U.eref [.int .i64 (Two.a q),.int .i64 (Two.b q)] 1),(71,.int .i64 (Two.b q)),(72,U.bool (Decidable.decide (Two.b q≠(1:Int)))),(73,U.bool (Decidable.decide (Two.b q≠(1:Int)))),(74,U.tup []),(75,U.tup []),(76,U.tup []),(77,U.tup [])] [] ([SB.box [.int .i64 (Bk.parts b),.int .i64 (Bk.size b),U.lst Kd.ro 1 (intsU (Bk.beats b)),.int .i64 (Bk.start b),.int .i64 (Bk.fin b),.int .i64 (Bk.tlo b),.int .i64 (Bk.thi b),.int .i64 (Bk.slo b),.int .i64 (Bk.shi b),.int .i64 (Bk.notice b),U.lst Kd.ro 3 (plsU (Bk.players b))]]) (.cons rfl (.cons rfl (.cons rfl (.cons rfl (.cons rfl (.cons rfl (.cons rfl (.cons rfl (.cons rfl (.cons rfl (.cons rfl (.cons rfl (.cons rfl (.cons rfl (.cons rfl (.cons rfl (.cons rfl (.cons rfl (.cons rfl (.cons rfl (.cons rfl (.cons rfl (.cons rfl (.cons rfl (.cons rfl (.cons rfl (.cons rfl (.cons rfl (.cons rfl (.cons rfl (.cons rfl (.nil rfl)))))))))))))))))))))))))))))))) rfl rfl fun fr=>?_
          refine o_gS rfl rfl rfl rfl (decide_eq_false (by omega)) ?_
          refine o_gS rfl rfl rfl rfl (decide_eq_false (by omega)) ?_
          refine o_gD rfl rfl rfl rfl (decide_eq_false (by omega)) ?_
          refine o_pickF rfl rfl (decide_eq_false (by omega)) ?_
          refine o_pickF rfl rfl (decide_eq_false (by omega)) ?_
          refine o_nil ?_
          refine k_gen [(2,U.box 0 0),(5,U.lst Kd.ro 1 (intsU L)),(6,U.lst Kd.ro 2 (twosU C)),(8,.int .i64 x),(9,.int .i64 ↑(List.length S)),(10,.int .i64 (↑i+(1:Int))),(46,U.lst Kd.ro 2 (twosU C)),(47,.int .i64 ↑(List.length S)),(48,U.eref [.int .i64 (Two.a q),.int .i64 (Two.b q)] 0),(49,U.eref [.int .i64 (Two.a q),.int .i64 (Two.b q)] 0),(50,.int .i64 (Two.a q)),(51,.int .i64 (↑i+(1:Int))),(52,U.box 0 1),(53,.int .i64 (Bk.size b)),(54,.int .i64 ((↑i+(1:Int))*Bk.size b)),(55,U.box 0 9),(56,.int .i64 (Bk.notice b)),(57,.int .i64 ((↑i+(1:Int))*Bk.size b - Bk.notice b)),(58,U.bool (Decidable.decide (Two.a q=(↑i+(1:Int))*Bk.size b - Bk.notice b))),(67,U.lst Kd.ro 2 (twosU C)),(68,.int .i64 ↑(List.length S)),(69,U.eref [.int .i64 (Two.a q),.int .i64 (Two.b q)] 0),(70,U.eref [.int .i64 (Two.a q),.int .i64 (Two.b q)] 1),(71,.int .i64 (Two.b q)),(72,U.bool (Decidable.decide (Two.b q≠(1:Int)))),(73,U.bool (Decidable.decide (Two.b q≠(1:Int)))),(74,U.tup []),(75,U.tup []),(76,U.tup []),(77,U.tup []),(78,U.tup []),(79,U.tup []),(80,U.bool Bool.false),(81,U.bool Bool.false)] ([SB.box [.int .i64 (Bk.parts b),.int .i64 (Bk.size b),U.lst Kd.ro 1 (intsU (Bk.beats b)),.int .i64 (Bk.start b),.int .i64 (Bk.fin b),.int .i64 (Bk.tlo b),.int .i64 (Bk.thi b),.int .i64 (Bk.slo b),.int .i64 (Bk.shi b),.int .i64 (Bk.notice b),U.lst Kd.ro 3 (plsU (Bk.players b))]]) (.cons rfl (.cons rfl (.cons rfl (.cons rfl (.cons rfl (.cons rfl (.cons rfl (.cons rfl (.cons rfl (.cons rfl (.cons rfl (.cons rfl (.cons rfl (.cons rfl (.cons rfl (.cons rfl (.cons rfl (.cons rfl (.cons rfl (.cons rfl (.cons rfl (.cons rfl (.cons rfl (.cons rfl (.cons rfl (.cons rfl (.cons rfl (.cons rfl (.cons rfl (.cons rfl (.cons rfl (.cons rfl (.cons rfl (.cons rfl (.nil rfl))))))))))))))))))))))))))))))))))) rfl fun fr=>?_
          refine k_cF rfl rfl ?_
          refine k_skip ?_
          refine k_seq (k_region ?_)
          refine o_move rfl ?_
          refine o_move rfl ?_
          refine o_move rfl ?_
          refine o_idx (u:=(q).u) rfl ty46 rfl rfl (Int.natCast_nonneg _) (by simp[hCq]) cl73 ?_
          refine o_faddrR rfl rfl fld73_1 ?_
          refine o_loadR1 rfl rfl sh3 rfl ?_
          refine o_add rfl rfl rfl (by unfold I64;omega) ?_
          refine o_assign rfl ?_
          refine o_nil ?_
          refine k_region ?_
          refine o_move rfl ?_
          refine o_add rfl rfl rfl (by unfold I64;omega) ?_
          refine o_assign rfl ?_
          refine o_nil ?_
          refine k_seq (k_region ?_)
          refine o_move rfl ?_
          refine o_move rfl ?_
          refine o_move rfl ?_
          refine o_idx (u:=.int .i64 (y)) rfl ty22 rfl rfl (Int.natCast_nonneg _) (by simp[hx]) cl3 ?_
          refine o_loadR1 rfl rfl sh3 rfl ?_
          refine o_neq rfl rfl rfl ?_
          refine o_nil ?_
          refine k_gen [(2,U.box 0 0),(5,U.lst Kd.ro 1 (intsU L)),(6,U.lst Kd.ro 2 (twosU C)),(8,.int .i64 (x+Two.b q)),(9,.int .i64 (↑(List.length S)+(1:Int))),(10,.int .i64 (↑i+(1:Int))),(46,U.lst Kd.ro 2 (twosU C)),(47,.int .i64 ↑(List.length S)),(48,U.eref [.int .i64 (Two.a q),.int .i64 (Two.b q)] 0),(49,U.eref [.int .i64 (Two.a q),.int .i64 (Two.b q)] 0),(50,.int .i64 (Two.a q)),(51,.int .i64 (↑i+(1:Int))),(52,U.box 0 1),(53,.int .i64 (Bk.size b)),(54,.int .i64 ((↑i+(1:Int))*Bk.size b)),(55,U.box 0 9),(56,.int .i64 (Bk.notice b)),(57,.int .i64 ((↑i+(1:Int))*Bk.size b - Bk.notice b)),(58,U.bool (Decidable.decide (Two.a q=(↑i+(1:Int))*Bk.size b - Bk.notice b))),(67,U.lst Kd.ro 2 (twosU C)),(68,.int .i64 ↑(List.length S)),(69,U.eref [.int .i64 (Two.a q),.int .i64 (Two.b q)] 0),(70,U.eref [.int .i64 (Two.a q),.int .i64 (Two.b q)] 1),(71,.int .i64 (Two.b q)),(72,U.bool (Decidable.decide (Two.b q≠(1:Int)))),(73,U.bool (Decidable.decide (Two.b q≠(1:Int)))),(74,U.tup []),(75,U.tup []),(76,U.tup []),(77,U.tup []),(78,U.tup []),(79,U.tup []),(80,U.bool Bool.false),(96,U.bool (Decidable.decide (x+Two.b q≠y)))] ([SB.box [.int .i64 (Bk.parts b),.int .i64 (Bk.size b),U.lst Kd.ro 1 (intsU (Bk.beats b)),.int .i64 (Bk.start b),.int .i64 (Bk.fin b),.int .i64 (Bk.tlo b),.int .i64 (Bk.thi b),.int .i64 (Bk.slo b),.int .i64 (Bk.shi b),.int .i64 (Bk.notice b),U.lst Kd.ro 3 (plsU (Bk.players b))]]) (.cons rfl (.cons rfl (.cons rfl (.cons rfl (.cons rfl (.cons rfl (.cons rfl (.cons rfl (.cons rfl (.cons rfl (.cons rfl (.cons rfl (.cons rfl (.cons rfl (.cons rfl (.cons rfl (.cons rfl (.cons rfl (.cons rfl (.cons rfl (.cons rfl (.cons rfl (.cons rfl (.cons rfl (.cons rfl (.cons rfl (.cons rfl (.cons rfl (.cons rfl (.cons rfl (.cons rfl (.cons rfl (.cons rfl (.cons rfl (.nil rfl))))))))))))))))))))))))))))))))))) rfl fun fr=>?_
          refine k_cF rfl (decide_eq_false (by omega)) ?_
          refine k_skip ?_
          refine k_region ?_
          refine o_move rfl ?_
          refine o_add rfl rfl rfl (by unfold I64;omega) ?_
          refine o_assign rfl ?_
          refine o_nil ?_
          exact⟨kk - 1,by omega,i+1,by omega,rfl,.cons rfl (.cons rfl (.cons rfl (.cons (by rw[hpe];exact congrArg (U.int .i64) (by omega)) (.cons (by rw[es,List.length_append];rfl) (.cons rfl (.nil rfl))))))⟩
        · refine k_seq ?_
          refine k_seq (k_region ?_)
          refine o_move rfl ?_
          refine o_faddr rfl rfl fld27_0 ?_
          refine o_load1 rfl rfl rfl sh3 rfl ?_
          refine o_lss rfl rfl rfl ?_
          refine o_nil ?_
          refine k_cT rfl (decide_eq_true (by omega)) ?_
          refine k_skip ?_
          refine k_seq ?_
          refine k_block ?_
          refine k_seq ?_
          refine k_seq ?_
          refine k_draw [.plain,.plain,.plain,.plain,.plain,.plain,.plain,.plain,.plain,.read true,.plain,.plain,.read true,.plain,.plain,.read true,.plain,.plain,.plain] (by kernel_rfl) (by kernel_rfl) (by kernel_rfl) ?_
          refine d_plain (o_move rfl (o_nil rfl)) ?_
          refine d_plain (o_move rfl (o_nil rfl)) ?_
          refine d_plain (o_len rfl ty46 rfl (List.length_map _) (o_nil rfl)) ?_
          refine d_plain (o_lss rfl rfl rfl (o_nil rfl)) ?_
          refine d_plain (o_move rfl (o_nil rfl)) ?_
          refine d_gD rfl rfl rfl rfl (decide_eq_true (by omega)) ?_
          refine d_plain (o_move rfl (o_nil rfl)) ?_
          refine d_gD rfl rfl rfl rfl (decide_eq_true (by omega)) ?_
          refine d_plain (o_move rfl (o_nil rfl)) ?_
          refine d_gD rfl rfl rfl rfl (decide_eq_true (by omega)) ?_
          refine d_plain (o_idx (u:=(q).u) rfl ty46 rfl rfl (Int.natCast_nonneg _) (by simp[hCq]) cl73 (o_nil rfl)) ?_
          refine d_gD rfl rfl rfl rfl (decide_eq_true (by omega)) ?_
          refine d_plain (o_faddrR rfl rfl fld73_0 (o_nil rfl)) ?_
          refine d_gD rfl rfl rfl rfl (decide_eq_true (by omega)) ?_
          refine d_load rfl (o_loadR1 rfl rfl sh3 rfl (o_nil rfl)) ?_
          refine d_gD rfl rfl rfl rfl (decide_eq_true (by omega)) ?_
          refine d_plain (o_move rfl (o_nil rfl)) ?_
          refine d_gD rfl rfl rfl rfl (decide_eq_true (by omega)) ?_
          refine d_plain (o_faddr rfl rfl fld27_1 (o_nil rfl)) ?_
          refine d_gD rfl rfl rfl rfl (decide_eq_true (by omega)) ?_
          refine d_load rfl (o_load1 rfl rfl rfl sh3 rfl (o_nil rfl)) ?_
          refine d_gD rfl rfl rfl rfl (decide_eq_true (by omega)) ?_
          refine d_plain (o_mul rfl rfl rfl (by unfold I64;omega) (o_nil rfl)) ?_
          refine d_gD rfl rfl rfl rfl (decide_eq_true (by omega)) ?_
          refine d_plain (o_faddr rfl rfl fld27_7 (o_nil rfl)) ?_
          refine d_gD rfl rfl rfl rfl (decide_eq_true (by omega)) ?_
          refine d_load rfl (o_load1 rfl rfl rfl sh3 rfl (o_nil rfl)) ?_
          refine d_gD rfl rfl rfl rfl (decide_eq_true (by omega)) ?_
          refine d_plain (o_sub rfl rfl rfl (by unfold I64;omega) (o_nil rfl)) ?_
          refine d_gD rfl rfl rfl rfl (decide_eq_true (by omega)) ?_
          refine d_plain (o_eql rfl rfl rfl (o_nil rfl)) ?_
          refine d_plain (o_pickT rfl rfl (decide_eq_true (by omega)) (o_nil rfl)) ?_
          refine d_nil ?_
          refine k_gen [(2,U.box 0 0),(5,U.lst Kd.ro 1 (intsU L)),(6,U.lst Kd.ro 2 (twosU C)),(8,.int .i64 x),(9,.int .i64 ↑(List.length S)),(10,.int .i64 (↑i+(1:Int))),(46,U.lst Kd.ro 2 (twosU C)),(47,.int .i64 ↑(List.length S)),(48,U.eref [.int .i64 (Two.a q),.int .i64 (Two.b q)] 0),(49,U.eref [.int .i64 (Two.a q),.int .i64 (Two.b q)] 0),(50,.int .i64 (Two.a q)),(51,.int .i64 (↑i+(1:Int))),(52,U.box 0 1),(53,.int .i64 (Bk.size b)),(54,.int .i64 ((↑i+(1:Int))*Bk.size b)),(55,U.box 0 9),(56,.int .i64 (Bk.notice b)),(57,.int .i64 ((↑i+(1:Int))*Bk.size b - Bk.notice b)),(58,U.bool (Decidable.decide (Two.a q=(↑i+(1:Int))*Bk.size b - Bk.notice b))),(59,U.bool (Decidable.decide (Two.a q=(↑i+(1:Int))*Bk.size b - Bk.notice b)))] ([SB.box [.int .i64 (Bk.parts b),.int .i64 (Bk.size b),U.lst Kd.ro 1 (intsU (Bk.beats b)),.int .i64 (Bk.start b),.int .i64 (Bk.fin b),.int .i64 (Bk.tlo b),.int .i64 (Bk.thi b),.int .i64 (Bk.slo b),.int .i64 (Bk.shi b),.int .i64 (Bk.notice b),U.lst Kd.ro 3 (plsU (Bk.players b))]]) (.cons rfl (.cons rfl (.cons rfl (.cons rfl (.cons rfl (.cons rfl (.cons rfl (.cons rfl (.cons rfl (.cons rfl (.cons rfl (.cons rfl (.cons rfl (.cons rfl (.cons rfl (.cons rfl (.cons rfl (.cons rfl (.cons rfl (.cons rfl (.nil rfl))))))))))))))))))))) rfl fun fr=>?_
          refine k_cT rfl (decide_eq_true hne) ?_
          refine k_seq ?_
          refine k_seq (k_region ?_)
          refine o_move rfl ?_
          refine o_move rfl ?_
          refine o_idx (u:=(q).u) rfl ty46 rfl rfl (Int.natCast_nonneg _) (by simp[hCq]) cl73 ?_
          refine o_faddrR rfl rfl fld73_0 ?_
          refine o_loadR1 rfl rfl sh3 rfl ?_
          refine o_lss rfl rfl rfl ?_
          refine o_move rfl ?_
          refine o_gD rfl rfl rfl rfl (decide_eq_false (by omega)) ?_
          refine o_move rfl ?_
          refine o_gD rfl rfl rfl rfl (decide_eq_false (by omega)) ?_
          refine o_move rfl ?_
          refine o_genA [(2,U.box 0 0),(5,U.lst Kd.ro 1 (intsU L)),(6,U.lst Kd.ro 2 (twosU C)),(8,.int .i64 x),(9,.int .i64 ↑(List.length S)),(10,.int .i64 (↑i+(1:Int))),(46,U.lst Kd.ro 2 (twosU C)),(47,.int .i64 ↑(List.length S)),(48,U.eref [.int .i64 (Two.a q),.int .i64 (Two.b q)] 0),(49,U.eref [.int .i64 (Two.a q),.int .i64 (Two.b q)] 0),(50,.int .i64 (Two.a q)),(51,.int .i64 (↑i+(1:Int))),(52,U.box 0 1),(53,.int .i64 (Bk.size b)),(54,.int .i64 ((↑i+(1:Int))*Bk.size b)),(55,U.box 0 9),(56,.int .i64 (Bk.notice b)),(57,.int .i64 ((↑i+(1:Int))*Bk.size b - Bk.notice b)),(58,U.bool (Decidable.decide (Two.a q=(↑i+(1:Int))*Bk.size b - Bk.notice b))),(66,U.bool (Decidable.decide (Two.a q<(0:Int)))),(67,U.lst Kd.ro 2 (twosU C)),(68,.int .i64 ↑(List.length S))] [] ([SB.box [.int .i64 (Bk.parts b),.int .i64 (Bk.size b),U.lst Kd.ro 1 (intsU (Bk.beats b)),.int .i64 (Bk.start b),.int .i64 (Bk.fin b),.int .i64 (Bk.tlo b),.int .i64 (Bk.thi b),.int .i64 (Bk.slo b),.int .i64 (Bk.shi b),.int .i64 (Bk.notice b),U.lst Kd.ro 3 (plsU (Bk.players b))]]) (.cons rfl (.cons rfl (.cons rfl (.cons rfl (.cons rfl (.cons rfl (.cons rfl (.cons rfl (.cons rfl (.cons rfl (.cons rfl (.cons rfl (.cons rfl (.cons rfl (.cons rfl (.cons rfl (.cons rfl (.cons rfl (.cons rfl (.cons rfl (.cons rfl (.cons rfl (.nil rfl))))))))))))))))))))))) rfl rfl fun fr=>?_
          refine o_gD rfl rfl rfl rfl (decide_eq_false (by omega)) ?_
          refine o_genA [(2,U.box 0 0),(5,U.lst Kd.ro 1 (intsU L)),(6,U.lst Kd.ro 2 (twosU C)),(8,.int .i64 x),(9,.int .i64 ↑(List.length S)),(10,.int .i64 (↑i+(1:Int))),(46,U.lst Kd.ro 2 (twosU C)),(47,.int .i64 ↑(List.length S)),(48,U.eref [.int .i64 (Two.a q),.int .i64 (Two.b q)] 0),(49,U.eref [.int .i64 (Two.a q),.int .i64 (Two.b q)] 0),(50,.int .i64 (Two.a q)),(51,.int .i64 (↑i+(1:Int))),(52,U.box 0 1),(53,.int .i64 (Bk.size b)),(54,.int .i64 ((↑i+(1:Int))*Bk.size b)),(55,U.box 0 9),(56,.int .i64 (Bk.notice b)),(57,.int .i64 ((↑i+(1:Int))*Bk.size b - Bk.notice b)),(58,U.bool (Decidable.decide (Two.a q=(↑i+(1:Int))*Bk.size b - Bk.notice b))),(66,U.bool (Decidable.decide (Two.a q<(0:Int)))),(67,U.lst Kd.ro 2 (twosU C)),(68,.int .i64 ↑(List.length S))] [] ([SB.box [.int .i64 (Bk.parts b),.int .i64 (Bk.size b),U.lst Kd.ro 1 (intsU (Bk.beats b)),.int .i64 (Bk.start b),.int .i64 (Bk.fin b),.int .i64 (Bk.tlo b),.int .i64 (Bk.thi b),.int .i64 (Bk.slo b),.int .i64 (Bk.shi b),.int .i64 (Bk.notice b),U.lst Kd.ro 3 (plsU (Bk.players b))]]) (.cons rfl (.cons rfl (.cons rfl (.cons rfl (.cons rfl (.cons rfl (.cons rfl (.cons rfl (.cons rfl (.cons rfl (.cons rfl (.cons rfl (.cons rfl (.cons rfl (.cons rfl (.cons rfl (.cons rfl (.cons rfl (.cons rfl (.cons rfl (.cons rfl (.cons rfl (.nil rfl))))))))))))))))))))))) rfl rfl fun fr=>?_
          refine o_idx (u:=(q).u) rfl ty46 rfl rfl (Int.natCast_nonneg _) (by simp[hCq]) cl73 ?_
          refine o_gD rfl rfl rfl rfl (decide_eq_false (by omega)) ?_
          refine o_faddrR rfl rfl fld73_1 ?_
          refine o_gD rfl rfl rfl rfl (decide_eq_false (by omega)) ?_
          refine o_loadR1 rfl rfl sh3 rfl ?_
          refine o_gD rfl rfl rfl rfl (decide_eq_false (by omega)) ?_
          refine o_neq rfl rfl rfl ?_
          refine o_gD rfl rfl rfl rfl (decide_eq_false (by omega)) ?_
          refine o_move rfl ?_
          refine o_gD rfl rfl rfl rfl (decide_eq_true (by omega)) ?_
          refine o_move rfl ?_
          refine o_gD rfl rfl rfl rfl (decide_eq_true (by omega)) ?_
          refine o_move rfl ?_
          refine o_gD rfl rfl rfl rfl (decide_eq_true (by omega)) ?_
          refine o_idx (u:=(q).u) rfl ty46 rfl rfl (Int.natCast_nonneg _) (by simp[hCq]) cl73 ?_
          refine o_gD rfl rfl rfl rfl (decide_eq_true (by omega)) ?_
          refine o_faddrR rfl rfl fld73_1 ?_
          refine o_genA [(2,U.box 0 0),(5,U.lst Kd.ro 1 (intsU L)),(6,U.lst Kd.ro 2 (twosU C)),(8,.int .i64 x),(9,.int .i64 ↑(List.length S)),(10,.int .i64 (↑i+(1:Int))),(46,U.lst Kd.ro 2 (twosU C)),(47,.int .i64 ↑(List.length S)),(48,U.eref [.int .i64 (Two.a q),.int .i64 (Two.b q)] 0),(49,U.eref [.int .i64 (Two.a q),.int .i64 (Two.b q)] 0),(50,.int .i64 (Two.a q)),(51,.int .i64 (↑i+(1:Int))),(52,U.box 0 1),(53,.int .i64 (Bk.size b)),(54,.int .i64 ((↑i+(1:Int))*Bk.size b)),(55,U.box 0 9),(56,.int .i64 (Bk.notice b)),(57,.int .i64 ((↑i+(1:Int))*Bk.size b - Bk.notice b)),(58,U.bool (Decidable.decide (Two.a q=(↑i+(1:Int))*Bk.size b - Bk.notice b))),(66,U.bool (Decidable.decide (Two.a q<(0:Int)))),(67,U.lst Kd.ro 2 (twosU C)),(68,.int .i64 ↑(List.length S)),(69,U.eref [.int .i64 (Two.a q),.int .i64 (Two.b q)] 0),(70,U.eref [.int .i64 (Two.a q),.int .i64 (Two.b q)] 1),(71,.int .i64 (Two.b q)),(72,U.bool (Decidable.decide (Two.b q≠(1:Int)))),(73,U.bool (Decidable.decide (Two.b q≠(1:Int)))),(74,U.lst Kd.ro 2 (twosU C)),(75,.int .i64 ↑(List.length S)),(76,U.eref [.int .i64 (Two.a q),.int .i64 (Two.b q)] 0),(77,U.eref [.int .i64 (Two.a q),.int .i64 (Two.b q)] 1)] [] ([SB.box [.int .i64 (Bk.parts b),.int .i64 (Bk.size b),U.lst Kd.ro 1 (intsU (Bk.beats b)),.int .i64 (Bk.start b),.int .i64 (Bk.fin b),.int .i64 (Bk.tlo b),.int .i64 (Bk.thi b),.int .i64 (Bk.slo b),.int .i64 (Bk.shi b),.int .i64 (Bk.notice b),U.lst Kd.ro 3 (plsU (Bk.players b))]]) (.cons rfl (.cons rfl (.cons rfl (.cons rfl (.cons rfl (.cons rfl (.cons rfl (.cons rfl (.cons rfl (.cons rfl (.cons rfl (.cons rfl (.cons rfl (.cons rfl (.cons rfl (.cons rfl (.cons rfl (.cons rfl (.cons rfl (.cons rfl (.cons rfl (.cons rfl (.cons rfl (.cons rfl (.cons rfl (.cons rfl (.cons rfl (.cons rfl (.cons rfl (.cons rfl (.cons rfl (.nil rfl)))))))))))))))))))))))))))))))) rfl rfl fun fr=>?_
          refine o_gD rfl rfl rfl rfl (decide_eq_true (by omega)) ?_
          refine o_genA [(2,U.box 0 0),(5,U.lst Kd.ro 1 (intsU L)),(6,U.lst Kd.ro 2 (twosU C)),(8,.int .i64 x),(9,.int .i64 ↑(List.length S)),(10,.int .i64 (↑i+(1:Int))),(46,U.lst Kd.ro 2 (twosU C)),(47,.int .i64 ↑(List.length S)),(48,U.eref [.int .i64 (Two.a q),.int .i64 (Two.b q)] 0),(49,U.eref [.int .i64 (Two.a q),.int .i64 (Two.b q)] 0),(50,.int .i64 (Two.a q)),(51,.int .i64 (↑i+(1:Int))),(52,U.box 0 1),(53,.int .i64 (Bk.size b)),(54,.int .i64 ((↑i+(1:Int))*Bk.size b)),(55,U.box 0 9),(56,.int .i64 (Bk.notice b)),(57,.int .i64 ((↑i+(1:Int))*Bk.size b - Bk.notice b)),(58,U.bool (Decidable.decide (Two.a q=(↑i+(1:Int))*Bk.size b - Bk.notice b))),(66,U.bool (Decidable.decide (Two.a q<(0:Int)))),(67,U.lst Kd.ro 2 (twosU C)),(68,.int .i64 ↑(List.length S)),(69,U.eref [.int .i64 (Two.a q),.int .i64 (Two.b q)] 0),(70,U.eref [.int .i64 (Two.a q),.int .i64 (Two.b q)] 1),(71,.int .i64 (Two.b q)),(72,U.bool (Decidable.decide (Two.b q≠(1:Int)))),(73,U.bool (Decidable.decide (Two.b q≠(1:Int)))),(74,U.lst Kd.ro 2 (twosU C)),(75,.int .i64 ↑(List.length S)),(76,U.eref [.int .i64 (Two.a q),.int .i64 (Two.b q)] 0),(77,U.eref [.int .i64 (Two.a q),.int .i64 (Two.b q)] 1)] [] ([SB.box [.int .i64 (Bk.parts b),.int .i64 (Bk.size b),U.lst Kd.ro 1 (intsU (Bk.beats b)),.int .i64 (Bk.start b),.int .i64 (Bk.fin b),.int .i64 (Bk.tlo b),.int .i64 (Bk.thi b),.int .i64 (Bk.slo b),.int .i64 (Bk.shi b),.int .i64 (Bk.notice b),U.lst Kd.ro 3 (plsU (Bk.players b))]]) (.cons rfl (.cons rfl (.cons rfl (.cons rfl (.cons rfl (.cons rfl (.cons rfl (.cons rfl (.cons rfl (.cons rfl (.cons rfl (.cons rfl (.cons rfl (.cons rfl (.cons rfl (.cons rfl (.cons rfl (.cons rfl (.cons rfl (.cons rfl (.cons rfl (.cons rfl (.cons rfl (.cons rfl (.cons rfl (.cons rfl (.cons rfl (.cons rfl (.cons rfl (.cons rfl (.cons rfl (.nil rfl)))))))))))))))))))))))))))))))) rfl rfl fun fr=>?_
          refine o_loadR1 rfl rfl sh3 rfl ?_
          refine o_gD rfl rfl rfl rfl (decide_eq_true (by omega)) ?_
          refine o_neq rfl rfl rfl ?_
          refine o_gD rfl rfl rfl rfl (decide_eq_false (by omega)) ?_
          refine o_pickT rfl rfl (decide_eq_true (by omega)) ?_
          refine o_pickF rfl rfl (decide_eq_false (by omega)) ?_
          refine o_nil ?_
          refine k_gen [(2,U.box 0 0),(5,U.lst Kd.ro 1 (intsU L)),(6,U.lst Kd.ro 2 (twosU C)),(8,.int .i64 x),(9,.int .i64 ↑(List.length S)),(10,.int .i64 (↑i+(1:Int))),(46,U.lst Kd.ro 2 (twosU C)),(47,.int .i64 ↑(List.length S)),(48,U.eref [.int .i64 (Two.a q),.int .i64 (Two.b q)] 0),(49,U.eref [.int .i64 (Two.a q),.int .i64 (Two.b q)] 0),(50,.int .i64 (Two.a q)),(51,.int .i64 (↑i+(1:Int))),(52,U.box 0 1),(53,.int .i64 (Bk.size b)),(54,.int .i64 ((↑i+(1:Int))*Bk.size b)),(55,U.box 0 9),(56,.int .i64 (Bk.notice b)),(57,.int .i64 ((↑i+(1:Int))*Bk.size b - Bk.notice b)),(58,U.bool (Decidable.decide (Two.a q=(↑i+(1:Int))*Bk.size b - Bk.notice b))),(67,U.lst Kd.ro 2 (twosU C)),(68,.int .i64 ↑(List.length S)),(69,U.eref [.int .i64 (Two.a q),.int .i64 (Two.b q)] 0),(70,U.eref [.int .i64 (Two.a q),.int .i64 (Two.b q)] 1),(71,.int .i64 (Two.b q)),(72,U.bool (Decidable.decide (Two.b q≠(1:Int)))),(73,U.bool (Decidable.decide (Two.b q≠(1:Int)))),(74,U.lst Kd.ro 2 (twosU C)),(75,.int .i64 ↑(List.length S)),(76,U.eref [.int .i64 (Two.a q),.int .i64 (Two.b q)] 0),(77,U.eref [.int .i64 (Two.a q),.int .i64 (Two.b q)] 1),(78,.int .i64 (Two.b q)),(79,U.bool (Decidable.decide (Two.b q≠(-1:Int)))),(80,U.bool (Decidable.decide (Two.b q≠(-1:Int)))),(81,U.bool (Decidable.decide (Two.b q≠(-1:Int))))] ([SB.box [.int .i64 (Bk.parts b),.int .i64 (Bk.size b),U.lst Kd.ro 1 (intsU (Bk.beats b)),.int .i64 (Bk.start b),.int .i64 (Bk.fin b),.int .i64 (Bk.tlo b),.int .i64 (Bk.thi b),.int .i64 (Bk.slo b),.int .i64 (Bk.shi b),.int .i64 (Bk.notice b),U.lst Kd.ro 3 (plsU (Bk.players b))]]) (.cons rfl (.cons rfl (.cons rfl (.cons rfl (.cons rfl (.cons rfl (.cons rfl (.cons rfl (.cons rfl (.cons rfl (.cons rfl (.cons rfl (.cons rfl (.cons rfl (.cons rfl (.cons rfl (.cons rfl (.cons rfl (.cons rfl (.cons rfl (.cons rfl (.cons rfl (.cons rfl (.cons rfl (.cons rfl (.cons rfl (.cons rfl (.cons rfl (.cons rfl (.cons rfl (.cons rfl (.cons rfl (.cons rfl (.cons rfl (.nil rfl))))))))))))))))))))))))))))))))))) rfl fun fr=>?_
          refine k_cF rfl (decide_eq_false (by omega)) ?_
          refine k_skip ?_
          refine k_seq (k_region ?_)
          refine o_move rfl ?_
          refine o_move rfl ?_
          refine o_move rfl ?_
          refine o_idx (u:=(q).u) rfl ty46 rfl rfl (Int.natCast_nonneg _) (by simp[hCq]) cl73 ?_
          refine o_faddrR rfl rfl fld73_1 ?_
          refine o_loadR1 rfl rfl sh3 rfl ?_
          refine o_add rfl rfl rfl (by unfold I64;omega) ?_
          refine o_assign rfl ?_
          refine o_nil ?_
          refine k_region ?_
          refine o_move rfl ?_
          refine o_add rfl rfl rfl (by unfold I64;omega) ?_
          refine o_assign rfl ?_
          refine o_nil ?_
          refine k_seq (k_region ?_)
          refine o_move rfl ?_
          refine o_move rfl ?_
          refine o_move rfl ?_
          refine o_idx (u:=.int .i64 (y)) rfl ty22 rfl rfl (Int.natCast_nonneg _) (by simp[hx]) cl3 ?_
          refine o_loadR1 rfl rfl sh3 rfl ?_
          refine o_neq rfl rfl rfl ?_
          refine o_nil ?_
          refine k_gen [(2,U.box 0 0),(5,U.lst Kd.ro 1 (intsU L)),(6,U.lst Kd.ro 2 (twosU C)),(8,.int .i64 (x+Two.b q)),(9,.int .i64 (↑(List.length S)+(1:Int))),(10,.int .i64 (↑i+(1:Int))),(46,U.lst Kd.ro 2 (twosU C)),(47,.int .i64 ↑(List.length S)),(48,U.eref [.int .i64 (Two.a q),.int .i64 (Two.b q)] 0),(49,U.eref [.int .i64 (Two.a q),.int .i64 (Two.b q)] 0),(50,.int .i64 (Two.a q)),(51,.int .i64 (↑i+(1:Int))),(52,U.box 0 1),(53,.int .i64 (Bk.size b)),(54,.int .i64 ((↑i+(1:Int))*Bk.size b)),(55,U.box 0 9),(56,.int .i64 (Bk.notice b)),(57,.int .i64 ((↑i+(1:Int))*Bk.size b - Bk.notice b)),(58,U.bool (Decidable.decide (Two.a q=(↑i+(1:Int))*Bk.size b - Bk.notice b))),(67,U.lst Kd.ro 2 (twosU C)),(68,.int .i64 ↑(List.length S)),(69,U.eref [.int .i64 (Two.a q),.int .i64 (Two.b q)] 0),(70,U.eref [.int .i64 (Two.a q),.int .i64 (Two.b q)] 1),(71,.int .i64 (Two.b q)),(72,U.bool (Decidable.decide (Two.b q≠(1:Int)))),(73,U.bool (Decidable.decide (Two.b q≠(1:Int)))),(74,U.lst Kd.ro 2 (twosU C)),(75,.int .i64 ↑(List.length S)),(76,U.eref [.int .i64 (Two.a q),.int .i64 (Two.b q)] 0),(77,U.eref [.int .i64 (Two.a q),.int .i64 (Two.b q)] 1),(78,.int .i64 (Two.b q)),(79,U.bool (Decidable.decide (Two.b q≠(-1:Int)))),(80,U.bool (Decidable.decide (Two.b q≠(-1:Int)))),(96,U.bool (Decidable.decide (x+Two.b q≠y)))] ([SB.box [.int .i64 (Bk.parts b),.int .i64 (Bk.size b),U.lst Kd.ro 1 (intsU (Bk.beats b)),.int .i64 (Bk.start b),.int .i64 (Bk.fin b),.int .i64 (Bk.tlo b),.int .i64 (Bk.thi b),.int .i64 (Bk.slo b),.int .i64 (Bk.shi b),.int .i64 (Bk.notice b),U.lst Kd.ro 3 (plsU (Bk.players b))]]) (.cons rfl (.cons rfl (.cons rfl (.cons rfl (.cons rfl (.cons rfl (.cons rfl (.cons rfl (.cons rfl (.cons rfl (.cons rfl (.cons rfl (.cons rfl (.cons rfl (.cons rfl (.cons rfl (.cons rfl (.cons rfl (.cons rfl (.cons rfl (.cons rfl (.cons rfl (.cons rfl (.cons rfl (.cons rfl (.cons rfl (.cons rfl (.cons rfl (.cons rfl (.cons rfl (.cons rfl (.cons rfl (.cons rfl (.cons rfl (.nil rfl))))))))))))))))))))))))))))))))))) rfl fun fr=>?_
          refine k_cF rfl (decide_eq_false (by omega)) ?_
          refine k_skip ?_
          refine k_region ?_
          refine o_move rfl ?_
          refine o_add rfl rfl rfl (by unfold I64;omega) ?_
          refine o_assign rfl ?_
          refine o_nil ?_
          exact⟨kk - 1,by omega,i+1,by omega,rfl,.cons rfl (.cons rfl (.cons rfl (.cons (by rw[hpe];exact congrArg (U.int .i64) (by omega)) (.cons (by rw[es,List.length_append];rfl) (.cons rfl (.nil rfl))))))⟩
    · have hie:i=n:=by omega
      subst hie
      rw[hC]at*
      refine k_seq ?_
      refine k_seq (k_region ?_)
      refine o_move rfl ?_
      refine o_faddr rfl rfl fld27_0 ?_
      refine o_load1 rfl rfl rfl sh3 rfl ?_
      refine o_lss rfl rfl rfl ?_
      refine o_nil ?_
      refine k_cF rfl (decide_eq_false (by omega)) ?_
      refine k_exit ?_
      refine k_seq (k_region ?_)
      refine o_move rfl ?_
      refine o_move rfl ?_
      refine o_len rfl ty46 rfl (List.length_map _) ?_
      refine o_eql rfl rfl rfl ?_
      refine o_move rfl ?_
      refine o_gD rfl rfl rfl rfl (decide_eq_true (by omega)) ?_
      refine o_call rfl (r24) (.lrefl _) ?_
      refine o_pickT rfl rfl (decide_eq_true (by omega)) ?_
      refine o_assign rfl ?_
      refine o_nil ?_
      refine k_ret ?_
      refine⟨.inr rfl,_,.cons _ _ _ _ (.tmp 4) .nil,?_⟩
      exact .refl _
end Go.Proofs.YtfbmlibilcjlgaaDoor.drumCued

/-! ### drum: the arguments of a law -/
namespace Go.Proofs.YtfbmlibilcjlgaaDoor.drumCued
open Vam
variable {is:FuncId→Bool}{orc:Known}
theorem und_struct{P:Program}{t:TypeId}(n:Nat)(h:(match P.underlying t with|some (.struct fs)=>Nat.beq fs.size n|_=>false)=true):∃fs,P.underlying t=some (.struct fs):=by
  cases hu:P.underlying t with
  |none=>rw[hu]at h;cases h
  |some ty=>rw[hu]at h;cases ty<;>first|exact⟨_,rfl⟩|cases h
theorem u3:Tryd.prog.underlying 3=some (.int .i64):=by kernel_rfl
theorem u22:Tryd.prog.underlying 22=some (.slice 3):=by kernel_rfl
theorem u66:Tryd.prog.underlying 66=some (.slice 24):=by kernel_rfl
theorem u25:Tryd.prog.underlying 25=some (.slice 68):=by kernel_rfl
def fts(P:Program)(t:TypeId):List TypeId:=match P.underlying t with|some (.struct fs)=>fs.toList.map (·.type)|_=>[]
theorem f27:fts Tryd.prog 27=[3,3,22,3,3,24,24,3,25]:=by kernel_rfl
theorem f24:fts Tryd.prog 24=[3,3]:=by kernel_rfl
theorem f68:fts Tryd.prog 68=[24,66]:=by kernel_rfl
theorem clq24:Program.cellsOf Tryd.prog 24=2:=by kernel_rfl
theorem clq68:Program.cellsOf Tryd.prog 68=3:=by kernel_rfl
theorem clq3:Program.cellsOf Tryd.prog 3=1:=by kernel_rfl
theorem shp_int{cs:List U}(h:Shp Tryd.prog 3 cs):∃n:Int,cs=[.int .i64 n]:=by
  cases h with
  |int _ k n hu _=>rw[u3]at hu;cases hu;exact⟨n,rfl⟩
  |bool _ _ hu=>rw[u3]at hu;cases hu
  |str _ _ hu=>rw[u3]at hu;cases hu
  |slice _ _ _ hu=>rw[u3]at hu;cases hu
  |struct _ _ _ hu=>rw[u3]at hu;cases hu
  |array _ _ _ _ hu=>rw[u3]at hu;cases hu
/-- a struct, by its fields' types -/
theorem shp_fields{P:Program}{t:TypeId}{cs:List U}(h:Shp P t cs)(hne:fts P t≠[]):∃fs:List Field,fs.map (·.type)=fts P t∧ShpF P fs cs:=by
  have no:∀{ty},P.underlying t=some ty→(∀fs,ty≠.struct fs)→False:=fun hu hn=>hne (by unfold fts;rw[hu];split<;>simp_all)
  cases h with
  |struct _ fs _ hu hf=>exact⟨fs.toList,by unfold fts;rw[hu],hf⟩
  |int _ k n hu _=>exact(no hu (by intro fs h;cases h)).elim
  |bool _ _ hu=>exact(no hu (by intro fs h;cases h)).elim
  |str _ _ hu=>exact(no hu (by intro fs h;cases h)).elim
  |slice _ _ _ hu=>exact(no hu (by intro fs h;cases h)).elim
  |array _ _ _ _ hu=>exact(no hu (by intro fs h;cases h)).elim
theorem shpF_cons{P:Program}{fs:List Field}{t:TypeId}{ts:List TypeId}{cs:List U}(h:ShpF P fs cs)(e:fs.map (·.type)=t::ts):∃gs xs ys,cs=xs++ys∧Shp P t xs∧ShpF P gs ys∧gs.map (·.type)=ts:=by
  cases h with
  |nil=>cases e
  |cons f fs xs ys h1 h2=>
    simp only[List.map_cons,List.cons.injEq]at e
    obtain⟨rfl,rfl⟩:=e
    exact⟨fs,xs,ys,rfl,h1,h2,rfl⟩
theorem shpF_nil{P:Program}{fs:List Field}{cs:List U}(h:ShpF P fs cs)(e:fs.map (·.type)=[]):cs=[]:=by
  cases h with
  |nil=>rfl
  |cons=>cases e
theorem shp_span{cs:List U}(h:Shp Tryd.prog 24 cs):∃a b:Int,cs=[.int .i64 a,.int .i64 b]:=by
  obtain⟨fs,e,hf⟩:=shp_fields h (by rw[f24];simp)
  rw[f24]at e
  obtain⟨g1,a1,b1,rfl,k1,r1,e1⟩:=shpF_cons hf e
  obtain⟨g2,a2,b2,rfl,k2,r2,e2⟩:=shpF_cons r1 e1
  obtain rfl:=shpF_nil r2 e2
  obtain⟨x,rfl⟩:=shp_int k1
  obtain⟨y,rfl⟩:=shp_int k2
  exact⟨x,y,rfl⟩
theorem shpL_map{P:Program}{e:TypeId}{α:Type}{f:α→List U}{css:List (List U)}(h:ShpL P e css)(k:∀cs,Shp P e cs→∃q,cs=f q):∃l:List α,css=l.map f:=by
  induction css with
  |nil=>exact⟨[],rfl⟩
  |cons cs css ih=>
    cases h with
    |cons _ _ _ h1 h2=>
      obtain⟨q,rfl⟩:=k _ h1
      obtain⟨l,rfl⟩:=ih h2
      exact⟨q::l,rfl⟩
theorem shp_slice{P:Program}{t e:TypeId}{cs:List U}(hu:P.underlying t=some (.slice e))(h:Shp P t cs):∃css,ShpL P e css∧cs=[.lst .ro (P.cellsOf e) (css.map (eU P e))]:=by
  cases h with
  |slice _ e' css hu' hl=>rw[hu]at hu';cases hu';exact⟨css,hl,rfl⟩
  |int _ k n hu' _=>rw[hu]at hu';cases hu'
  |bool _ _ hu'=>rw[hu]at hu';cases hu'
  |str _ _ hu'=>rw[hu]at hu';cases hu'
  |struct _ _ _ hu'=>rw[hu]at hu';cases hu'
  |array _ _ _ _ hu'=>rw[hu]at hu';cases hu'
theorem eu68:∀cs,eU Tryd.prog 68 cs=.agg cs:=by
  obtain⟨fs,h⟩:=und_struct (P:=Tryd.prog) (t:=68) 2 (by kernel_rfl)
  intro cs;unfold eU;rw[h]
theorem eu24:∀cs,eU Tryd.prog 24 cs=.agg cs:=by
  obtain⟨fs,h⟩:=und_struct (P:=Tryd.prog) (t:=24) 2 (by kernel_rfl)
  intro cs;unfold eU;rw[h]
theorem eu3:∀cs,eU Tryd.prog 3 cs=cs.headD .junk:=by
  intro cs;unfold eU;rw[u3]
theorem map_ints{F:List U→U}(he:∀cs,F cs=cs.headD .junk)(l:List Int):(l.map fun n:Int=>[U.int .i64 n]).map F=intsU l:=by
  rw[List.map_map]
  exact List.map_congr_left fun q _=>he _
theorem shp_ints{cs:List U}(h:Shp Tryd.prog 22 cs):∃l:List Int,cs=[.lst .ro 1 (intsU l)]:=by
  obtain⟨css,hl,rfl⟩:=shp_slice u22 h
  obtain⟨l,rfl⟩:=shpL_map (f:=fun n:Int=>[.int .i64 n]) hl fun cs hcs=>shp_int hcs
  refine⟨l,?_⟩
  rw[clq3,map_ints eu3]
theorem map_twos{F:List U→U}(he:∀cs,F cs=.agg cs)(l:List Two):(l.map fun q:Two=>[U.int .i64 q.a,.int .i64 q.b]).map F=twosU l:=by
  rw[List.map_map]
  exact List.map_congr_left fun q _=>he _
theorem shp_spans{cs:List U}(h:Shp Tryd.prog 66 cs):∃l:List Two,cs=[.lst .ro 2 (twosU l)]:=by
  obtain⟨css,hl,rfl⟩:=shp_slice u66 h
  obtain⟨l,rfl⟩:=shpL_map (f:=fun q:Two=>[.int .i64 q.a,.int .i64 q.b]) hl fun cs hcs=>by obtain⟨x,y,rfl⟩:=shp_span hcs;exact⟨⟨x,y⟩,rfl⟩
  refine⟨l,?_⟩
  rw[clq24,map_twos eu24]
theorem shp_player{cs:List U}(h:Shp Tryd.prog 68 cs):∃p:Pl,cs=p.cs:=by
  obtain⟨fs,e,hf⟩:=shp_fields h (by rw[f68];simp)
  rw[f68]at e
  obtain⟨g1,a1,b1,rfl,k1,r1,e1⟩:=shpF_cons hf e
  obtain⟨g2,a2,b2,rfl,k2,r2,e2⟩:=shpF_cons r1 e1
  obtain rfl:=shpF_nil r2 e2
  obtain⟨x,y,rfl⟩:=shp_span k1
  obtain⟨l,rfl⟩:=shp_spans k2
  exact⟨⟨x,y,l⟩,rfl⟩
theorem map_pls{F:List U→U}(he:∀cs,F cs=.agg cs)(l:List Pl):(l.map fun q:Pl=>q.cs).map F=plsU l:=by
  rw[List.map_map]
  exact List.map_congr_left fun q _=>he _
theorem shp_players{cs:List U}(h:Shp Tryd.prog 25 cs):∃l:List Pl,cs=[.lst .ro 3 (plsU l)]:=by
  obtain⟨css,hl,rfl⟩:=shp_slice u25 h
  obtain⟨l,rfl⟩:=shpL_map (f:=fun q:Pl=>q.cs) hl fun cs hcs=>shp_player hcs
  refine⟨l,?_⟩
  rw[clq68,map_pls eu68]
theorem shp_bk{cs:List U}(h:Shp Tryd.prog 27 cs):∃b:Bk,cs=b.cs:=by
  obtain⟨fs,e,hf⟩:=shp_fields h (by rw[f27];simp)
  rw[f27]at e
  obtain⟨g1,a1,b1,rfl,k1,r1,e1⟩:=shpF_cons hf e
  obtain⟨g2,a2,b2,rfl,k2,r2,e2⟩:=shpF_cons r1 e1
  obtain⟨g3,a3,b3,rfl,k3,r3,e3⟩:=shpF_cons r2 e2
  obtain⟨g4,a4,b4,rfl,k4,r4,e4⟩:=shpF_cons r3 e3
  obtain⟨g5,a5,b5,rfl,k5,r5,e5⟩:=shpF_cons r4 e4
  obtain⟨g6,a6,b6,rfl,k6,r6,e6⟩:=shpF_cons r5 e5
  obtain⟨g7,a7,b7,rfl,k7,r7,e7⟩:=shpF_cons r6 e6
  obtain⟨g8,a8,b8,rfl,k8,r8,e8⟩:=shpF_cons r7 e7
  obtain⟨g9,a9,b9,rfl,k9,r9,e9⟩:=shpF_cons r8 e8
  obtain rfl:=shpF_nil r9 e9
  obtain⟨parts,rfl⟩:=shp_int k1
  obtain⟨size,rfl⟩:=shp_int k2
  obtain⟨beats,rfl⟩:=shp_ints k3
  obtain⟨start,rfl⟩:=shp_int k4
  obtain⟨fin,rfl⟩:=shp_int k5
  obtain⟨tlo,thi,rfl⟩:=shp_span k6
  obtain⟨slo,shi,rfl⟩:=shp_span k7
  obtain⟨notice,rfl⟩:=shp_int k8
  obtain⟨players,rfl⟩:=shp_players k9
  exact⟨⟨parts,size,beats,start,fin,tlo,thi,slo,shi,notice,players⟩,rfl⟩
theorem und27:∃fs,Tryd.prog.underlying 27=some (.struct fs):=und_struct (P:=Tryd.prog) (t:=27) 9 (by kernel_rfl)
theorem arg_bk{u:U}(h:∃cs,u=.agg cs∧Shp Tryd.prog 27 cs):∃b:Bk,u=b.u:=by
  obtain⟨cs,rfl,h⟩:=h
  obtain⟨b,rfl⟩:=shp_bk h
  exact⟨b,rfl⟩
theorem arg_ints{u:U}(h:Shp Tryd.prog 22 [u]):∃l:List Int,u=.lst .ro 1 (intsU l):=by
  obtain⟨l,e⟩:=shp_ints h
  cases e
  exact⟨l,rfl⟩
theorem arg_int{u:U}(h:Shp Tryd.prog 3 [u]):∃n:Int,u=.int .i64 n:=by
  obtain⟨n,e⟩:=shp_int h
  cases e
  exact⟨n,rfl⟩
theorem ret13_all(hi:Off is)(r24:RetP Tryd.prog is orc 24 [] (.bool true)):∀us,ShpAs Tryd.prog [27,22] us→RetP Tryd.prog is orc 13 us (.bool true):=by
  intro us h
  cases h with
  |cons _ _ u us h1 h=>cases h with
  |cons _ _ v us h2 h=>
  cases h
  obtain⟨fs,hu⟩:=und27
  unfold ShpA at h1 h2
  rw[hu]at h1
  rw[u22]at h2
  obtain⟨b,rfl⟩:=arg_bk h1
  obtain⟨l,rfl⟩:=arg_ints h2
  exact ret13 hi b l r24
end Go.Proofs.YtfbmlibilcjlgaaDoor.drumCued
