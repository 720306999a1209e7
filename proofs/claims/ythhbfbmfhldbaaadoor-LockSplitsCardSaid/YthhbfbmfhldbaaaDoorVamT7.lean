import Derived.Test.YthhbfbmfhldbaaaDoorVamT6
set_option linter.unusedVariables false
set_option linter.unusedSimpArgs false
set_option linter.constructorNameAsVariable false
namespace Go.Proofs.YthhbfbmfhldbaaaDoor.locks
open Vam
section
variable {is:FuncId→Bool}{orc:Known}{l:Ln}
theorem pl118:zFV Tryd.prog 118=some [(0,1),(1,1)]:=by kernel_rfl
theorem sh118:shOf Tryd.prog 118=.many 2:=by kernel_rfl
theorem ze118:yM Tryd.prog 118=some ((.cons .nilf (.cons .nilf .nil)):V):=by kernel_rfl
noncomputable def b92:Code:=(Tryd.f92.body).getD .skip
theorem body92:bodyOf Tryd.prog 92=some (8,b92,[.cell 2 118]):=by kernel_rfl
theorem pure92:pureFn Tryd.prog 92=false:=by kernel_rfl
noncomputable def b103:Code:=(Tryd.f103.body).getD .skip
theorem body103:bodyOf Tryd.prog 103=some (17,b103,[.tmp 4]):=by kernel_rfl
theorem pure103:pureFn Tryd.prog 103=true:=by kernel_rfl
theorem pl148:zFV Tryd.prog 148=some [(0,1),(1,1)]:=by kernel_rfl
theorem sh148:shOf Tryd.prog 148=.many 2:=by kernel_rfl
theorem ze148:yM Tryd.prog 148=some ((.cons .nilf (.cons .nilf .nil)):V):=by kernel_rfl
noncomputable def b115:Code:=(Tryd.f115.body).getD .skip
theorem body115:bodyOf Tryd.prog 115=some (2,b115,[.cell 0 148]):=by kernel_rfl
theorem pure115:pureFn Tryd.prog 115=false:=by kernel_rfl
noncomputable def b116:Code:=(Tryd.f116.body).getD .skip
theorem body116:bodyOf Tryd.prog 116=some (6,b116,[.tmp 2]):=by kernel_rfl
theorem pure116:pureFn Tryd.prog 116=true:=by kernel_rfl
noncomputable def b117:Code:=(Tryd.f117.body).getD .skip
theorem body117:bodyOf Tryd.prog 117=some (6,b117,[.tmp 2]):=by kernel_rfl
theorem pure117:pureFn Tryd.prog 117=true:=by kernel_rfl
theorem cl147:Program.cellsOf Tryd.prog 147=1:=by kernel_rfl
theorem sh147:shOf Tryd.prog 147=.one:=by kernel_rfl
theorem ty148:tyOf Tryd.prog 148=.array 2 147:=by kernel_rfl
noncomputable def b108:Code:=(Tryd.f108.body).getD .skip
theorem body108:bodyOf Tryd.prog 108=some (32,b108,[.tmp 8]):=by kernel_rfl
theorem pure108:pureFn Tryd.prog 108=true:=by kernel_rfl
theorem round_eq{k n:Int}(hn:0<n):(k.tmod n+n).tmod n=k % n:=by
 have h1:=Int.tmod_lt_of_pos k hn
 have h2: -n<k.tmod n:=by have:=Int.lt_tmod_of_pos k hn;omega
 rw[Int.tmod_eq_emod_of_nonneg (by omega),Int.add_emod_right]
 by_cases h0:k.tmod n<0
 ·rw[tmod_neg hn h0,Int.emod_eq_add_self_emod,Int.emod_eq_of_lt (by omega) (by omega)]
 ·rw[tmod_pos hn h0]
  rw[Int.emod_eq_of_lt (by omega) (by omega)]
theorem ret103(hi:Off is)(h:VL l)(k:Int):RetP Tryd.prog is orc 103 [l.u,.int .i64 k] (.int .i64 (k % (l.slots.length:Int))):=by
 have hn:=h.n
 have hp:(0:Int)<l.slots.length:=by omega
 have h1:=Int.tmod_lt_of_pos k hp
 have h2: -(l.slots.length:Int)<k.tmod l.slots.length:=by have:=Int.lt_tmod_of_pos k hp;omega
 have i1:I64 (k.tmod l.slots.length):=by unfold I64;omega
 have i2:I64 (k.tmod l.slots.length+l.slots.length):=by unfold I64;omega
 refine zw body103 pure103 (hi 103 (by decide)) rfl rfl (yq (yk l 5) (.int _ _ _)) (.inl (.int _ _ _)) ?_
 rw[←round_eq hp]
 have i3:I64 ((k.tmod l.slots.length+l.slots.length).tmod l.slots.length):=by
  have g1:=Int.tmod_lt_of_pos (k.tmod l.slots.length+l.slots.length) hp
  have g2: -(l.slots.length:Int)<(k.tmod l.slots.length+l.slots.length).tmod l.slots.length:=by have:=Int.lt_tmod_of_pos (k.tmod l.slots.length+l.slots.length) hp;omega
  unfold I64;omega
 refine kQ (zk rfl rfl (zA rfl (zB ?_)))
 refine zH [(1,.int .i64 k),(2,U.box 0 0)] ([SB.box [.lst .ro 1 (zE (Ln.slots l)),.int .i64 (Ln.left l),.int .i64 (Ln.right l),.int .i64 (Ln.run l)]]) (.n2 rfl) rfl fun fr=>?_
 refine kQ (kw rfl yR (kw rfl zS (kA sh22 rfl (zq rfl ty22 rfl (List.length_map _) ?_))))
 refine zA rfl (zB (kQ (zC rfl (zC rfl (o_rem rfl rfl rfl (by omega) ?_)))))
 refine zC rfl ?_
 refine kz rfl (by unfold I64;omega) (zC rfl (o_rem rfl rfl rfl (by omega) ?_))
 refine zA rfl (zB (zV ?_))
 refine⟨.inr rfl,_,.cons _ _ _ _ (.tmp 4) .nil,?_⟩
 exact .refl _
theorem ret116(hi:Off is)(l:Ln):RetP Tryd.prog is orc 116 [l.u] (.int .i64 l.left):=by
 refine zw body116 pure116 (hi 116 (by decide)) rfl rfl (wA (yk l 5)) (.inl (.int _ _ _)) ?_
 refine kQ (zk rfl rfl (zA rfl (zB ?_)))
 refine zH [(1,U.box 0 0)] ([SB.box [.lst .ro 1 (zE (Ln.slots l)),.int .i64 (Ln.left l),.int .i64 (Ln.right l),.int .i64 (Ln.run l)]]) (.n1 rfl) rfl fun fr=>?_
 refine kQ (kw rfl yR (kw rfl zCW (kA sh3 rfl (zA rfl (zB (zV ?_))))))
 refine⟨.inr rfl,_,.cons _ _ _ _ (.tmp 2) .nil,?_⟩
 exact .refl _
theorem ret117(hi:Off is)(l:Ln):RetP Tryd.prog is orc 117 [l.u] (.int .i64 l.right):=by
 refine zw body117 pure117 (hi 117 (by decide)) rfl rfl (wA (yk l 5)) (.inl (.int _ _ _)) ?_
 refine kQ (zk rfl rfl (zA rfl (zB ?_)))
 refine zH [(1,U.box 0 0)] ([SB.box [.lst .ro 1 (zE (Ln.slots l)),.int .i64 (Ln.left l),.int .i64 (Ln.right l),.int .i64 (Ln.run l)]]) (.n1 rfl) rfl fun fr=>?_
 refine kQ (kw rfl yR (kw rfl zEG (kA sh3 rfl (zA rfl (zB (zV ?_))))))
 refine⟨.inr rfl,_,.cons _ _ _ _ (.tmp 2) .nil,?_⟩
 exact .refl _
theorem nb_fn0(f:Nat):NB (.fn f [] []):=NB.fn (fun u hu=>by cases hu) (fun u hu=>by cases hu)
abbrev tonesU:U:=.agg [.fn 116 [] [],.fn 117 [] []]
theorem ret115(hi:Off is):RetP Tryd.prog is orc 115 [] tonesU:=by
 refine zBj body115 pure115 rfl rfl (fun u hu=>by cases hu) ?_ ?_
 ·refine NB.agg fun c hc=>?_
  simp only[List.mem_cons,List.not_mem_nil,or_false]at hc
  rcases hc with rfl|rfl<;>exact nb_fn0 _
 refine kQ (yL rfl ze148 ?_)
 refine zB ?_
 refine zH [(0,U.box 0 0)] ([SB.box [U.nilf,U.nilf]]) (.n1 rfl) rfl fun fr=>?_
 refine kQ (we rfl ze148 pl148 rfl rfl ?_)
 refine yY rfl rfl sh148 rfl rfl rfl rfl rfl ?_
 refine zB (zV ?_)
 refine⟨.inr rfl,_,.cons _ _ _ _ (.cellN 0 148 _ _ _ _ rfl rfl sh148 rfl) .nil,?_⟩
 exact .refl _
abbrev rulesU(l:Ln):U:=.agg [.fn 108 [l.u] [],.fn 109 [l.u] []]
theorem ret92(hi:Off is)(l:Ln):RetP Tryd.prog is orc 92 [l.u] (rulesU l):=by
 refine zBj body92 pure92 rfl rfl (fun u hu=>?_) ?_ ?_
 ·have hd:=wA (yk l 5) u hu
  exact⟨hd.nb,NoOwn.of fun z es h=>by
   simp only[List.mem_cons,List.not_mem_nil,or_false]at hu
   rw[hu]at h;cases h⟩
 ·refine NB.agg fun c hc=>?_
  simp only[List.mem_cons,List.not_mem_nil,or_false]at hc
  rcases hc with rfl|rfl<;>exact NB.fn (fun u hu=>(wA (yk l 5) u hu).nb) (fun u hu=>by cases hu)
 refine kQ (zk rfl rfl (yL rfl ze118 ?_))
 refine zB ?_
 refine zH [(1,U.box 0 0),(2,U.box 1 0)] ([SB.box [.lst .ro 1 (zE (Ln.slots l)),.int .i64 (Ln.left l),.int .i64 (Ln.right l),.int .i64 (Ln.run l)],SB.box [U.nilf,U.nilf]]) (.n2 rfl) rfl fun fr=>?_
 refine kQ (kB sh73 rfl ?_)
 refine o_func rfl ?_
 refine kB sh73 rfl ?_
 refine o_func rfl ?_
 refine we rfl ze118 pl118 rfl rfl ?_
 refine yY rfl rfl sh118 rfl rfl rfl rfl rfl ?_
 refine zB (zV ?_)
 refine⟨.inr rfl,_,.cons _ _ _ _ (.cellN 2 118 _ _ _ _ rfl rfl sh118 rfl) .nil,?_⟩
 exact .refl _
end
section
variable {is:FuncId→Bool}{orc:Known}{l:Ln}
def zDp(l:Ln)(w t:Int):Bool:=decide (t≠ -1)&&bitI (zCx l w) t
set_option maxHeartbeats 8000000 in
theorem ret108(hi:Off is)(h:VL l)(f g:Nat→Bool){w:Int}(hw:w=0∨w=1){i:Nat}(hin:i<l.slots.length):RetP Tryd.prog is orc 108 [l.u,spU f g,.int .i64 w,.int .i64 i] (.bool (zDp l w (at' l.slots i))):=by
 refine zw body108 pure108 (hi 108 (by decide)) rfl rfl (dat_l4 (yk l 5) (yy _ 6) (.int _ _ _) (.int _ _ _)) (.inl (.bool _ _)) ?_
 obtain⟨t,hx,ha,ht⟩:=h.at hin
 rw[ha]
 have hn:=h.n
 have hlf:=h.lf
 have hrt:=h.rt
 have q115:=ret115 (orc:=orc) hi
 have q116:=ret116 (orc:=orc) hi l
 have q117:=ret117 (orc:=orc) hi l
 unfold spU
 have l1:=zl f
 have l2:=zl g
 generalize b16 f=S at*
 generalize b16 g=T at*
 obtain⟨a0,a1,a2,a3,a4,a5,a6,a7,a8,a9,a10,a11,a12,a13,a14,a15,rfl⟩:=zDb l1
 obtain⟨b0,b1,b2,b3,b4,b5,b6,b7,b8,b9,b10,b11,b12,b13,b14,b15,rfl⟩:=zDb l2
 unfold zDp
 by_cases c:t= -1
 ·rw[show decide (t≠ -1)=false from kG (by omega),Bool.false_and]
  refine kQ (zk rfl rfl (zk rfl rfl (zA rfl (zB ?_))))
  refine zH [(2,.int .i64 w),(3,.int .i64 ↑i),(4,U.box 0 0)] ([SB.box [.lst .ro 1 (zE (Ln.slots l)),.int .i64 (Ln.left l),.int .i64 (Ln.right l),.int .i64 (Ln.run l)],SB.box [U.bool a0,U.bool a1,U.bool a2,U.bool a3,U.bool a4,U.bool a5,U.bool a6,U.bool a7,U.bool a8,U.bool a9,U.bool a10,U.bool a11,U.bool a12,U.bool a13,U.bool a14,U.bool a15,U.bool b0,U.bool b1,U.bool b2,U.bool b3,U.bool b4,U.bool b5,U.bool b6,U.bool b7,U.bool b8,U.bool b9,U.bool b10,U.bool b11,U.bool b12,U.bool b13,U.bool b14,U.bool b15]]) (.n3 rfl) rfl fun fr=>?_
  refine k_seq (yf [.plain,.plain,.plain,.plain,.plain,.plain,.plain,.plain,.quiet,.plain,.plain,.read true,.quiet,.plain,.plain,.read true,.plain,.plain,.read true,.plain,.plain,.plain,.plain,.plain] (by kernel_rfl) (by kernel_rfl) (by kernel_rfl) ?_)
  refine zD (kw rfl yR (zB rfl)) ?_
  refine zD (kw rfl zS (zB rfl)) ?_
  refine zD (kA sh22 rfl (zB rfl)) ?_
  refine zD (zC rfl (zB rfl)) (zD (yA (u:=.int .i64 (t)) rfl ty22 rfl rfl (Int.natCast_nonneg _) (by simp[hx]) cl3 (zB rfl)) ?_)
  refine zD (kC sh3 rfl (zB rfl)) ?_
  refine zD (kr rfl (zB rfl)) ?_
  refine zD (zC rfl (zB rfl)) (km rfl (kG (by omega)) ?_)
  refine zn [(2,.int .i64 w),(3,.int .i64 ↑i),(4,U.box 0 0),(16,U.bool (decide (t≠(-1:Int))))] [] ([SB.box [.lst .ro 1 (zE (Ln.slots l)),.int .i64 (Ln.left l),.int .i64 (Ln.right l),.int .i64 (Ln.run l)],SB.box [U.bool a0,U.bool a1,U.bool a2,U.bool a3,U.bool a4,U.bool a5,U.bool a6,U.bool a7,U.bool a8,U.bool a9,U.bool a10,U.bool a11,U.bool a12,U.bool a13,U.bool a14,U.bool a15,U.bool b0,U.bool b1,U.bool b2,U.bool b3,U.bool b4,U.bool b5,U.bool b6,U.bool b7,U.bool b8,U.bool b9,U.bool b10,U.bool b11,U.bool b12,U.bool b13,U.bool b14,U.bool b15]]) (.n4 rfl) rfl rfl fun fr=>?_
  refine km rfl (kG (by omega)) ?_
  refine km rfl (kG (by omega)) ?_
  refine km rfl (kG (by omega)) ?_
  refine km rfl (kG (by omega)) ?_
  refine km rfl (kG (by omega)) ?_
  refine km rfl (kG (by omega)) ?_
  refine km rfl (kG (by omega)) ?_
  refine km rfl (kG (by omega)) ?_
  refine km rfl (kG (by omega)) ?_
  refine zn [(16,U.bool (decide (t≠(-1:Int))))] [] ([SB.box [.lst .ro 1 (zE (Ln.slots l)),.int .i64 (Ln.left l),.int .i64 (Ln.right l),.int .i64 (Ln.run l)],SB.box [U.bool a0,U.bool a1,U.bool a2,U.bool a3,U.bool a4,U.bool a5,U.bool a6,U.bool a7,U.bool a8,U.bool a9,U.bool a10,U.bool a11,U.bool a12,U.bool a13,U.bool a14,U.bool a15,U.bool b0,U.bool b1,U.bool b2,U.bool b3,U.bool b4,U.bool b5,U.bool b6,U.bool b7,U.bool b8,U.bool b9,U.bool b10,U.bool b11,U.bool b12,U.bool b13,U.bool b14,U.bool b15]]) (.n1 rfl) rfl rfl fun fr=>?_
  refine km rfl (kG (by omega)) ?_
  refine km rfl (kG (by omega)) ?_
  refine km rfl (kG (by omega)) ?_
  refine km rfl (kG (by omega)) ?_
  refine zD (zAO rfl rfl (kG (by omega)) (zB rfl)) ?_
  refine zD (zA rfl (zB rfl)) ?_
  refine wm ?_
  refine zV ?_
  refine⟨.inr rfl,_,.cons _ _ _ _ (.tmp 8) .nil,?_⟩
  exact .refl _
 ·rw[show decide (t≠ -1)=true from kF c,Bool.true_and]
  unfold bitI
  rcases hw with rfl|rfl
  ·rw[show zCx l 0=l.left from rfl]
   have hfd:=fdiv_b t.toNat (show 0≤l.left∧l.left≤1000000 by omega)
   refine kQ (zk rfl rfl (zk rfl rfl (zA rfl (zB ?_))))
   refine zH [(2,.int .i64 0),(3,.int .i64 ↑i),(4,U.box 0 0)] ([SB.box [.lst .ro 1 (zE (Ln.slots l)),.int .i64 (Ln.left l),.int .i64 (Ln.right l),.int .i64 (Ln.run l)],SB.box [U.bool a0,U.bool a1,U.bool a2,U.bool a3,U.bool a4,U.bool a5,U.bool a6,U.bool a7,U.bool a8,U.bool a9,U.bool a10,U.bool a11,U.bool a12,U.bool a13,U.bool a14,U.bool a15,U.bool b0,U.bool b1,U.bool b2,U.bool b3,U.bool b4,U.bool b5,U.bool b6,U.bool b7,U.bool b8,U.bool b9,U.bool b10,U.bool b11,U.bool b12,U.bool b13,U.bool b14,U.bool b15]]) (.n3 rfl) rfl fun fr=>?_
   refine k_seq (yf [.plain,.plain,.plain,.plain,.plain,.plain,.plain,.plain,.quiet,.plain,.plain,.read true,.quiet,.plain,.plain,.read true,.plain,.plain,.read true,.plain,.plain,.plain,.plain,.plain] (by kernel_rfl) (by kernel_rfl) (by kernel_rfl) ?_)
   refine zD (kw rfl yR (zB rfl)) ?_
   refine zD (kw rfl zS (zB rfl)) ?_
   refine zD (kA sh22 rfl (zB rfl)) ?_
   refine zD (zC rfl (zB rfl)) (zD (yA (u:=.int .i64 (t)) rfl ty22 rfl rfl (Int.natCast_nonneg _) (by simp[hx]) cl3 (zB rfl)) ?_)
   refine zD (kC sh3 rfl (zB rfl)) ?_
   refine zD (kr rfl (zB rfl)) ?_
   refine zD (zC rfl (zB rfl)) (kn rfl (kF (by omega)) ?_)
   refine zDO rfl (q115) (.lrefl _) ?_
   refine zn [(2,.int .i64 0),(3,.int .i64 ↑i),(4,U.box 0 0),(16,U.bool (decide (t≠(-1:Int)))),(17,U.agg [U.fn 116 [] [],U.fn 117 [] []])] [] ([SB.box [.lst .ro 1 (zE (Ln.slots l)),.int .i64 (Ln.left l),.int .i64 (Ln.right l),.int .i64 (Ln.run l)],SB.box [U.bool a0,U.bool a1,U.bool a2,U.bool a3,U.bool a4,U.bool a5,U.bool a6,U.bool a7,U.bool a8,U.bool a9,U.bool a10,U.bool a11,U.bool a12,U.bool a13,U.bool a14,U.bool a15,U.bool b0,U.bool b1,U.bool b2,U.bool b3,U.bool b4,U.bool b5,U.bool b6,U.bool b7,U.bool b8,U.bool b9,U.bool b10,U.bool b11,U.bool b12,U.bool b13,U.bool b14,U.bool b15]]) (.n5 rfl) rfl rfl fun fr=>?_
   refine kn rfl (kF (by omega)) ?_
   refine zn [(2,.int .i64 0),(3,.int .i64 ↑i),(4,U.box 0 0),(16,U.bool (decide (t≠(-1:Int)))),(17,U.agg [U.fn 116 [] [],U.fn 117 [] []])] [] ([SB.box [.lst .ro 1 (zE (Ln.slots l)),.int .i64 (Ln.left l),.int .i64 (Ln.right l),.int .i64 (Ln.run l)],SB.box [U.bool a0,U.bool a1,U.bool a2,U.bool a3,U.bool a4,U.bool a5,U.bool a6,U.bool a7,U.bool a8,U.bool a9,U.bool a10,U.bool a11,U.bool a12,U.bool a13,U.bool a14,U.bool a15,U.bool b0,U.bool b1,U.bool b2,U.bool b3,U.bool b4,U.bool b5,U.bool b6,U.bool b7,U.bool b8,U.bool b9,U.bool b10,U.bool b11,U.bool b12,U.bool b13,U.bool b14,U.bool b15]]) (.n5 rfl) rfl rfl fun fr=>?_
   refine zD (zC rfl (zB rfl)) (kn rfl (kF (by omega)) ?_)
   refine zD (wX rfl ty148 rfl rfl (by omega) (by omega) cl147 sh147 rfl (zB rfl)) ?_
   refine kn rfl (kF (by omega)) ?_
   refine zf rfl (kB sh73 rfl (zB rfl)) ?_
   refine kn rfl (kF (by omega)) ?_
   refine d_callVQ rfl rfl q116 (.lrefl _) ?_
   refine kn rfl (kF (by omega)) ?_
   refine zD (kw rfl yR (zB rfl)) ?_
   refine kn rfl (kF (by omega)) ?_
   refine zD (kw rfl zS (zB rfl)) ?_
   refine kn rfl (kF (by omega)) ?_
   refine zf rfl (kA sh22 rfl (zB rfl)) (kn rfl (kF (by omega)) ?_)
   refine zD (zC rfl (zB rfl)) (kn rfl (kF (by omega)) ?_)
   refine zD (yA (u:=.int .i64 (t)) rfl ty22 rfl rfl (Int.natCast_nonneg _) (by simp[hx]) cl3 (zB rfl)) ?_
   refine zn [(16,U.bool (decide (t≠(-1:Int)))),(21,.int .i64 (Ln.left l)),(26,U.eref [.int .i64 t] 0)] [] ([SB.box [.lst .ro 1 (zE (Ln.slots l)),.int .i64 (Ln.left l),.int .i64 (Ln.right l),.int .i64 (Ln.run l)],SB.box [U.bool a0,U.bool a1,U.bool a2,U.bool a3,U.bool a4,U.bool a5,U.bool a6,U.bool a7,U.bool a8,U.bool a9,U.bool a10,U.bool a11,U.bool a12,U.bool a13,U.bool a14,U.bool a15,U.bool b0,U.bool b1,U.bool b2,U.bool b3,U.bool b4,U.bool b5,U.bool b6,U.bool b7,U.bool b8,U.bool b9,U.bool b10,U.bool b11,U.bool b12,U.bool b13,U.bool b14,U.bool b15]]) (.n3 rfl) rfl rfl fun fr=>?_
   refine kn rfl (kF (by omega)) ?_
   refine zn [(16,U.bool (decide (t≠(-1:Int)))),(21,.int .i64 (Ln.left l)),(26,U.eref [.int .i64 t] 0)] [] ([SB.box [.lst .ro 1 (zE (Ln.slots l)),.int .i64 (Ln.left l),.int .i64 (Ln.right l),.int .i64 (Ln.run l)],SB.box [U.bool a0,U.bool a1,U.bool a2,U.bool a3,U.bool a4,U.bool a5,U.bool a6,U.bool a7,U.bool a8,U.bool a9,U.bool a10,U.bool a11,U.bool a12,U.bool a13,U.bool a14,U.bool a15,U.bool b0,U.bool b1,U.bool b2,U.bool b3,U.bool b4,U.bool b5,U.bool b6,U.bool b7,U.bool b8,U.bool b9,U.bool b10,U.bool b11,U.bool b12,U.bool b13,U.bool b14,U.bool b15]]) (.n3 rfl) rfl rfl fun fr=>?_
   refine zf rfl (kC sh3 rfl (zB rfl)) ?_
   refine kn rfl (kF (by omega)) ?_
   refine zD (o_shr rfl rfl rfl (by omega) (zB rfl)) ?_
   refine kn rfl (kF (by omega)) ?_
   refine zD (o_andOne rfl rfl rfl hfd (zB rfl)) ?_
   refine kn rfl (kF (by omega)) ?_
   refine zD (ks rfl (zB rfl)) ?_
   refine zD (wq rfl rfl (kF (by omega)) (zB rfl)) ?_
   refine zD (zA rfl (zB rfl)) ?_
   refine wm ?_
   refine zV ?_
   refine⟨.inr rfl,_,.cons _ _ _ _ (.tmp 8) .nil,?_⟩
   exact .refl _
  ·rw[show zCx l 1=l.right from rfl]
   have hfd:=fdiv_b t.toNat (show 0≤l.right∧l.right≤1000000 by omega)
   refine kQ (zk rfl rfl (zk rfl rfl (zA rfl (zB ?_))))
   refine zH [(2,.int .i64 1),(3,.int .i64 ↑i),(4,U.box 0 0)] ([SB.box [.lst .ro 1 (zE (Ln.slots l)),.int .i64 (Ln.left l),.int .i64 (Ln.right l),.int .i64 (Ln.run l)],SB.box [U.bool a0,U.bool a1,U.bool a2,U.bool a3,U.bool a4,U.bool a5,U.bool a6,U.bool a7,U.bool a8,U.bool a9,U.bool a10,U.bool a11,U.bool a12,U.bool a13,U.bool a14,U.bool a15,U.bool b0,U.bool b1,U.bool b2,U.bool b3,U.bool b4,U.bool b5,U.bool b6,U.bool b7,U.bool b8,U.bool b9,U.bool b10,U.bool b11,U.bool b12,U.bool b13,U.bool b14,U.bool b15]]) (.n3 rfl) rfl fun fr=>?_
   refine k_seq (yf [.plain,.plain,.plain,.plain,.plain,.plain,.plain,.plain,.quiet,.plain,.plain,.read true,.quiet,.plain,.plain,.read true,.plain,.plain,.read true,.plain,.plain,.plain,.plain,.plain] (by kernel_rfl) (by kernel_rfl) (by kernel_rfl) ?_)
   refine zD (kw rfl yR (zB rfl)) ?_
   refine zD (kw rfl zS (zB rfl)) ?_
   refine zD (kA sh22 rfl (zB rfl)) ?_
   refine zD (zC rfl (zB rfl)) (zD (yA (u:=.int .i64 (t)) rfl ty22 rfl rfl (Int.natCast_nonneg _) (by simp[hx]) cl3 (zB rfl)) ?_)
   refine zD (kC sh3 rfl (zB rfl)) ?_
   refine zD (kr rfl (zB rfl)) ?_
   refine zD (zC rfl (zB rfl)) (kn rfl (kF (by omega)) ?_)
   refine zDO rfl (q115) (.lrefl _) ?_
   refine zn [(2,.int .i64 1),(3,.int .i64 ↑i),(4,U.box 0 0),(16,U.bool (decide (t≠(-1:Int)))),(17,U.agg [U.fn 116 [] [],U.fn 117 [] []])] [] ([SB.box [.lst .ro 1 (zE (Ln.slots l)),.int .i64 (Ln.left l),.int .i64 (Ln.right l),.int .i64 (Ln.run l)],SB.box [U.bool a0,U.bool a1,U.bool a2,U.bool a3,U.bool a4,U.bool a5,U.bool a6,U.bool a7,U.bool a8,U.bool a9,U.bool a10,U.bool a11,U.bool a12,U.bool a13,U.bool a14,U.bool a15,U.bool b0,U.bool b1,U.bool b2,U.bool b3,U.bool b4,U.bool b5,U.bool b6,U.bool b7,U.bool b8,U.bool b9,U.bool b10,U.bool b11,U.bool b12,U.bool b13,U.bool b14,U.bool b15]]) (.n5 rfl) rfl rfl fun fr=>?_
   refine kn rfl (kF (by omega)) ?_
   refine zn [(2,.int .i64 1),(3,.int .i64 ↑i),(4,U.box 0 0),(16,U.bool (decide (t≠(-1:Int)))),(17,U.agg [U.fn 116 [] [],U.fn 117 [] []])] [] ([SB.box [.lst .ro 1 (zE (Ln.slots l)),.int .i64 (Ln.left l),.int .i64 (Ln.right l),.int .i64 (Ln.run l)],SB.box [U.bool a0,U.bool a1,U.bool a2,U.bool a3,U.bool a4,U.bool a5,U.bool a6,U.bool a7,U.bool a8,U.bool a9,U.bool a10,U.bool a11,U.bool a12,U.bool a13,U.bool a14,U.bool a15,U.bool b0,U.bool b1,U.bool b2,U.bool b3,U.bool b4,U.bool b5,U.bool b6,U.bool b7,U.bool b8,U.bool b9,U.bool b10,U.bool b11,U.bool b12,U.bool b13,U.bool b14,U.bool b15]]) (.n5 rfl) rfl rfl fun fr=>?_
   refine zD (zC rfl (zB rfl)) (kn rfl (kF (by omega)) ?_)
   refine zD (wX rfl ty148 rfl rfl (by omega) (by omega) cl147 sh147 rfl (zB rfl)) ?_
   refine kn rfl (kF (by omega)) ?_
   refine zf rfl (kB sh73 rfl (zB rfl)) ?_
   refine kn rfl (kF (by omega)) ?_
   refine d_callVQ rfl rfl q117 (.lrefl _) ?_
   refine kn rfl (kF (by omega)) ?_
   refine zD (kw rfl yR (zB rfl)) ?_
   refine kn rfl (kF (by omega)) ?_
   refine zD (kw rfl zS (zB rfl)) ?_
   refine kn rfl (kF (by omega)) ?_
   refine zf rfl (kA sh22 rfl (zB rfl)) (kn rfl (kF (by omega)) ?_)
   refine zD (zC rfl (zB rfl)) (kn rfl (kF (by omega)) ?_)
   refine zD (yA (u:=.int .i64 (t)) rfl ty22 rfl rfl (Int.natCast_nonneg _) (by simp[hx]) cl3 (zB rfl)) ?_
   refine zn [(16,U.bool (decide (t≠(-1:Int)))),(21,.int .i64 (Ln.right l)),(26,U.eref [.int .i64 t] 0)] [] ([SB.box [.lst .ro 1 (zE (Ln.slots l)),.int .i64 (Ln.left l),.int .i64 (Ln.right l),.int .i64 (Ln.run l)],SB.box [U.bool a0,U.bool a1,U.bool a2,U.bool a3,U.bool a4,U.bool a5,U.bool a6,U.bool a7,U.bool a8,U.bool a9,U.bool a10,U.bool a11,U.bool a12,U.bool a13,U.bool a14,U.bool a15,U.bool b0,U.bool b1,U.bool b2,U.bool b3,U.bool b4,U.bool b5,U.bool b6,U.bool b7,U.bool b8,U.bool b9,U.bool b10,U.bool b11,U.bool b12,U.bool b13,U.bool b14,U.bool b15]]) (.n3 rfl) rfl rfl fun fr=>?_
   refine kn rfl (kF (by omega)) ?_
   refine zn [(16,U.bool (decide (t≠(-1:Int)))),(21,.int .i64 (Ln.right l)),(26,U.eref [.int .i64 t] 0)] [] ([SB.box [.lst .ro 1 (zE (Ln.slots l)),.int .i64 (Ln.left l),.int .i64 (Ln.right l),.int .i64 (Ln.run l)],SB.box [U.bool a0,U.bool a1,U.bool a2,U.bool a3,U.bool a4,U.bool a5,U.bool a6,U.bool a7,U.bool a8,U.bool a9,U.bool a10,U.bool a11,U.bool a12,U.bool a13,U.bool a14,U.bool a15,U.bool b0,U.bool b1,U.bool b2,U.bool b3,U.bool b4,U.bool b5,U.bool b6,U.bool b7,U.bool b8,U.bool b9,U.bool b10,U.bool b11,U.bool b12,U.bool b13,U.bool b14,U.bool b15]]) (.n3 rfl) rfl rfl fun fr=>?_
   refine zf rfl (kC sh3 rfl (zB rfl)) ?_
   refine kn rfl (kF (by omega)) ?_
   refine zD (o_shr rfl rfl rfl (by omega) (zB rfl)) ?_
   refine kn rfl (kF (by omega)) ?_
   refine zD (o_andOne rfl rfl rfl hfd (zB rfl)) ?_
   refine kn rfl (kF (by omega)) ?_
   refine zD (ks rfl (zB rfl)) ?_
   refine zD (wq rfl rfl (kF (by omega)) (zB rfl)) ?_
   refine zD (zA rfl (zB rfl)) ?_
   refine wm ?_
   refine zV ?_
   refine⟨.inr rfl,_,.cons _ _ _ _ (.tmp 8) .nil,?_⟩
   exact .refl _
end
end Go.Proofs.YthhbfbmfhldbaaaDoor.locks
