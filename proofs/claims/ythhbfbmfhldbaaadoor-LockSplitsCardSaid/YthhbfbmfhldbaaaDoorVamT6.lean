import Derived.Test.YthhbfbmfhldbaaaDoorVamT5
set_option linter.unusedVariables false
set_option linter.unusedSimpArgs false
set_option linter.constructorNameAsVariable false
namespace Go.Proofs.YthhbfbmfhldbaaaDoor.locks
open Vam
section
variable {is:FuncId→Bool}{orc:Known}{l:Ln}
theorem cl83:Program.cellsOf Tryd.prog 83=16:=by kernel_rfl
theorem sh85:shOf Tryd.prog 85=.many 32:=by kernel_rfl
theorem ty85:tyOf Tryd.prog 85=.array 2 83:=by kernel_rfl
noncomputable def b64:Code:=(Tryd.f64.body).getD .skip
theorem body64:bodyOf Tryd.prog 64=some (35,b64,[.tmp 4]):=by kernel_rfl
theorem pure64:pureFn Tryd.prog 64=true:=by kernel_rfl
abbrev spU(f g:Nat→Bool):U:=.agg (zK (b16 f++b16 g))
def plI(f g:Nat→Bool)(k:Nat):Int:=if g k=true then 1 else if f k=true then 0 else -1
def plL(f g:Nat→Bool)(n:Nat):List Int:=(List.range n).map (plI f g)
theorem plL_succ(f g:Nat→Bool)(n:Nat):plL f g (n+1)=plL f g n++[plI f g n]:=by simp[plL,List.range_succ]
theorem plL_len(f g:Nat→Bool)(n:Nat):(plL f g n).length=n:=by simp[plL]
set_option maxHeartbeats 16000000 in
theorem ret64(hi:Off is)(f g:Nat→Bool){n:Nat}(hn:n≤16):RetP Tryd.prog is orc 64 [spU f g,.int .i64 n] (.lst .ro 1 (zE (plL f g n))):=by
 refine zw body64 pure64 (hi 64 (by decide)) rfl rfl (yq (yy _ 6) (.int _ _ _)) (.inl (yG 6 .ro (fun h=>by cases h) 1 _)) ?_
 have h0:∀i:Nat,i<16→(zK (b16 f))[0+(i:Int).toNat*1]? =some (.bool (f i)):=fun i h=>by rw[show 0+(i:Int).toNat*1=i by omega];exact zBw (zCb h)
 have h1:∀i:Nat,i<16→(zK (b16 g))[0+(i:Int).toNat*1]? =some (.bool (g i)):=fun i h=>by rw[show 0+(i:Int).toNat*1=i by omega];exact zBw (zCb h)
 have hs0:=zl f
 have hs1:=zl g
 unfold spU
 generalize b16 f=S0 at*
 generalize b16 g=S1 at*
 obtain⟨a0,a1,a2,a3,a4,a5,a6,a7,a8,a9,a10,a11,a12,a13,a14,a15,rfl⟩:=zDb hs0
 obtain⟨b0,b1,b2,b3,b4,b5,b6,b7,b8,b9,b10,b11,b12,b13,b14,b15,rfl⟩:=zDb hs1
 obtain⟨V,hV⟩:∃V:List SB,V=[.box (zK ([a0,a1,a2,a3,a4,a5,a6,a7,a8,a9,a10,a11,a12,a13,a14,a15]++[b0,b1,b2,b3,b4,b5,b6,b7,b8,b9,b10,b11,b12,b13,b14,b15]))]:=⟨_,rfl⟩
 refine kQ (zk rfl rfl (zA rfl (zB ?_)))
 refine zH [(1,.int .i64 ↑n),(2,U.box 0 0)] ([SB.box [U.bool a0,U.bool a1,U.bool a2,U.bool a3,U.bool a4,U.bool a5,U.bool a6,U.bool a7,U.bool a8,U.bool a9,U.bool a10,U.bool a11,U.bool a12,U.bool a13,U.bool a14,U.bool a15,U.bool b0,U.bool b1,U.bool b2,U.bool b3,U.bool b4,U.bool b5,U.bool b6,U.bool b7,U.bool b8,U.bool b9,U.bool b10,U.bool b11,U.bool b12,U.bool b13,U.bool b14,U.bool b15]]) (.n2 rfl) rfl fun fr=>?_
 refine kQ (zA rfl (zB (k_seq (kQ (zC rfl (zC rfl (zB (zI ?_))))))))
 refine yX (fun kk s2=>∃(i:Nat) (e:List SB),kk+i=n∧s2.st=V++e∧Holds s2 [(2,.box 0 0),(5,accI (plL f g i)),(10,.int .i64 n),(11,.int .i64 i)]) (fun kk s2 hI=>?_) n _ ⟨0,[],rfl,(by rw[hV];rfl),.c4 rfl rfl rfl rfl (.nil rfl)⟩
 obtain⟨i,e,hk,hst2,hs2⟩:=hI
 have hsu:=plL_succ f g i
 have hlen:=plL_len f g i
 obtain⟨M,hM⟩:∃M,M=plL f g i:=⟨_,rfl⟩
 rw[←hM]at hsu hlen hs2
 by_cases hin:i<n
 ·have q0:=h0 i (by omega)
  have q1:=h1 i (by omega)
  clear h0 h1
  obtain⟨p1,hp1⟩:∃p1:Int,p1=if f i=true then 0 else -1:=⟨_,rfl⟩
  obtain⟨p2,hp2⟩:∃p2:Int,p2=plI f g i:=⟨_,rfl⟩
  have hp2':p2=if g i=true then 1 else p1:=by rw[hp2,hp1];rfl
  have hV0:(V++e)[0]? =some (.box [.bool a0,.bool a1,.bool a2,.bool a3,.bool a4,.bool a5,.bool a6,.bool a7,.bool a8,.bool a9,.bool a10,.bool a11,.bool a12,.bool a13,.bool a14,.bool a15,.bool b0,.bool b1,.bool b2,.bool b3,.bool b4,.bool b5,.bool b6,.bool b7,.bool b8,.bool b9,.bool b10,.bool b11,.bool b12,.bool b13,.bool b14,.bool b15]):=by rw[hV];rfl
  obtain⟨Y,hY⟩:∃Y,Y=V++e:=⟨_,rfl⟩
  rw[←hY]at hst2 hV0
  refine zH _ _ hs2 hst2 fun fr2=>?_
  refine kQ (kp rfl (zB (k_seq (k_cT rfl (kF (by omega)) (zL (k_seq (zI (kQ (zC rfl (zA rfl (zB (kQ (zA rfl (zB (k_seq ?_)))))))))))))))
  refine kQ (zDx rfl rfl hV0 sh85 rfl ?_)
  refine zC rfl (zB (zI ?_))
  refine yX (fun mm s3=>∃(j:Nat) (e2:List SB),mm+j=2∧s3.st=Y++e2∧Holds s3 [(2,.box 0 0),(5,accI M),(6,.int .i64 i),(7,.int .i64 (if j=0 then -1 else if j=1 then p1 else p2)),(10,.int .i64 n),(11,.int .i64 i),(14,.agg [.bool a0,.bool a1,.bool a2,.bool a3,.bool a4,.bool a5,.bool a6,.bool a7,.bool a8,.bool a9,.bool a10,.bool a11,.bool a12,.bool a13,.bool a14,.bool a15,.bool b0,.bool b1,.bool b2,.bool b3,.bool b4,.bool b5,.bool b6,.bool b7,.bool b8,.bool b9,.bool b10,.bool b11,.bool b12,.bool b13,.bool b14,.bool b15]),(15,.int .i64 j)]) (fun mm s3 hJ=>?_) 2 _ ⟨0,[],rfl,(by rw[List.append_nil];rfl),.c4 rfl rfl rfl rfl (.n4 rfl)⟩
  obtain⟨j,e2,hj,hst3,hs3⟩:=hJ
  obtain⟨Z,hZ⟩:∃Z,Z=Y++e2:=⟨_,rfl⟩
  rw[←hZ]at hst3
  have hj3:j=0∨j=1∨j=2:=by omega
  have hat:∀x:SB,(Z++[x])[Z.length]? =some x:=fun x=>by simp
  have hset:∀x y:SB,(Z++[x]).set Z.length y=Z++[y]:=zAJ Z
  rcases hj3 with rfl|rfl|rfl
  ·refine zH _ _ hs3 hst3 fun fr3=>?_
   cases c:f i with
   |true=>
    rw[c]at q0
    rw[c,if_pos rfl]at hp1
    refine kQ (kp rfl (zB (k_seq (k_cT rfl rfl ?_))))
    refine zL (k_seq (zI (kQ (zC rfl (o_idxN (i:=0) rfl ty85 rfl rfl (by decide) cl83 sh83 (Nat.le_of_ble_eq_true rfl) ?_)))))
    refine yL rfl ze83 ?_
    refine zA rfl (yY rfl (wI _ _) sh83 rfl rfl rfl rfl rfl ?_)
    refine zB ?_
    refine zH [(2,U.box 0 0),(5,accI M),(6,.int .i64 ↑i),(7,.int .i64 (if 0=0 then(-1:Int)else if 0=1 then p1 else p2)),(8,.int .i64 ↑0),(9,U.box (List.length Z) 0),(10,.int .i64 ↑n),(11,.int .i64 ↑i),(14,U.agg [U.bool a0,U.bool a1,U.bool a2,U.bool a3,U.bool a4,U.bool a5,U.bool a6,U.bool a7,U.bool a8,U.bool a9,U.bool a10,U.bool a11,U.bool a12,U.bool a13,U.bool a14,U.bool a15,U.bool b0,U.bool b1,U.bool b2,U.bool b3,U.bool b4,U.bool b5,U.bool b6,U.bool b7,U.bool b8,U.bool b9,U.bool b10,U.bool b11,U.bool b12,U.bool b13,U.bool b14,U.bool b15]),(15,.int .i64 ↑0)] (Z++[SB.box [U.bool a0,U.bool a1,U.bool a2,U.bool a3,U.bool a4,U.bool a5,U.bool a6,U.bool a7,U.bool a8,U.bool a9,U.bool a10,U.bool a11,U.bool a12,U.bool a13,U.bool a14,U.bool a15]]) (.n10 rfl) (zAJ _ _ _) fun fr=>?_
    refine kQ (zC rfl (yW rfl ty83 rfl rfl (by omega) (by omega) cl4 ?_))
    refine zx rfl rfl (hat _) sh4 q0 ?_
    refine zB (k_cT rfl rfl ?_)
    refine k_region (zC rfl (zA rfl (zB (k_region ?_))))
    refine kz rfl (by unfold I64;omega) (zC rfl (zB ?_))
    exact⟨mm - 1,by omega,1,e2++[_],by omega,(by show Z++[_]=_;rw[hZ,List.append_assoc]),.cons rfl (.cons rfl (.cons rfl (.cons (by show U.int .i64 _=U.int .i64 p1;rw[hp1]) (.n4 rfl))))⟩
   |false=>
    rw[c]at q0
    rw[c,if_neg (by decide)]at hp1
    refine kQ (kp rfl (zB (k_seq (k_cT rfl rfl ?_))))
    refine zL (k_seq (zI (kQ (zC rfl (o_idxN (i:=0) rfl ty85 rfl rfl (by decide) cl83 sh83 (Nat.le_of_ble_eq_true rfl) ?_)))))
    refine yL rfl ze83 ?_
    refine zA rfl (yY rfl (wI _ _) sh83 rfl rfl rfl rfl rfl ?_)
    refine zB ?_
    refine zH [(2,U.box 0 0),(5,accI M),(6,.int .i64 ↑i),(7,.int .i64 (if 0=0 then(-1:Int)else if 0=1 then p1 else p2)),(8,.int .i64 ↑0),(9,U.box (List.length Z) 0),(10,.int .i64 ↑n),(11,.int .i64 ↑i),(14,U.agg [U.bool a0,U.bool a1,U.bool a2,U.bool a3,U.bool a4,U.bool a5,U.bool a6,U.bool a7,U.bool a8,U.bool a9,U.bool a10,U.bool a11,U.bool a12,U.bool a13,U.bool a14,U.bool a15,U.bool b0,U.bool b1,U.bool b2,U.bool b3,U.bool b4,U.bool b5,U.bool b6,U.bool b7,U.bool b8,U.bool b9,U.bool b10,U.bool b11,U.bool b12,U.bool b13,U.bool b14,U.bool b15]),(15,.int .i64 ↑0)] (Z++[SB.box [U.bool a0,U.bool a1,U.bool a2,U.bool a3,U.bool a4,U.bool a5,U.bool a6,U.bool a7,U.bool a8,U.bool a9,U.bool a10,U.bool a11,U.bool a12,U.bool a13,U.bool a14,U.bool a15]]) (.n10 rfl) (zAJ _ _ _) fun fr=>?_
    refine kQ (zC rfl (yW rfl ty83 rfl rfl (by omega) (by omega) cl4 ?_))
    refine zx rfl rfl (hat _) sh4 q0 ?_
    refine zB (k_cF rfl rfl ?_)
    refine zL (k_region ?_)
    refine kz rfl (by unfold I64;omega) (zC rfl (zB ?_))
    exact⟨mm - 1,by omega,1,e2++[_],by omega,(by show Z++[_]=_;rw[hZ,List.append_assoc]),.cons rfl (.cons rfl (.cons rfl (.cons (by show U.int .i64 _=U.int .i64 p1;rw[hp1];rfl) (.n4 rfl))))⟩
  ·refine zH _ _ hs3 hst3 fun fr3=>?_
   cases c:g i with
   |true=>
    rw[c]at q1
    rw[c,if_pos rfl]at hp2'
    refine kQ (kp rfl (zB (k_seq (k_cT rfl rfl ?_))))
    refine zL (k_seq (zI (kQ (zC rfl (o_idxN (i:=1) rfl ty85 rfl rfl (by decide) cl83 sh83 (Nat.le_of_ble_eq_true rfl) ?_)))))
    refine yL rfl ze83 ?_
    refine zA rfl (yY rfl (wI _ _) sh83 rfl rfl rfl rfl rfl ?_)
    refine zB ?_
    refine zH [(2,U.box 0 0),(5,accI M),(6,.int .i64 ↑i),(7,.int .i64 (if 1=0 then(-1:Int)else if 1=1 then p1 else p2)),(8,.int .i64 ↑1),(9,U.box (List.length Z) 0),(10,.int .i64 ↑n),(11,.int .i64 ↑i),(14,U.agg [U.bool a0,U.bool a1,U.bool a2,U.bool a3,U.bool a4,U.bool a5,U.bool a6,U.bool a7,U.bool a8,U.bool a9,U.bool a10,U.bool a11,U.bool a12,U.bool a13,U.bool a14,U.bool a15,U.bool b0,U.bool b1,U.bool b2,U.bool b3,U.bool b4,U.bool b5,U.bool b6,U.bool b7,U.bool b8,U.bool b9,U.bool b10,U.bool b11,U.bool b12,U.bool b13,U.bool b14,U.bool b15]),(15,.int .i64 ↑1)] (Z++[SB.box [U.bool b0,U.bool b1,U.bool b2,U.bool b3,U.bool b4,U.bool b5,U.bool b6,U.bool b7,U.bool b8,U.bool b9,U.bool b10,U.bool b11,U.bool b12,U.bool b13,U.bool b14,U.bool b15]]) (.n10 rfl) (zAJ _ _ _) fun fr=>?_
    refine kQ (zC rfl (yW rfl ty83 rfl rfl (by omega) (by omega) cl4 ?_))
    refine zx rfl rfl (hat _) sh4 q1 ?_
    refine zB (k_cT rfl rfl ?_)
    refine k_region (zC rfl (zA rfl (zB (k_region ?_))))
    refine kz rfl (by unfold I64;omega) (zC rfl (zB ?_))
    exact⟨mm - 1,by omega,2,e2++[_],by omega,(by show Z++[_]=_;rw[hZ,List.append_assoc]),.cons rfl (.cons rfl (.cons rfl (.cons (by show U.int .i64 _=U.int .i64 p2;rw[hp2']) (.n4 rfl))))⟩
   |false=>
    rw[c]at q1
    rw[c,if_neg (by decide)]at hp2'
    refine kQ (kp rfl (zB (k_seq (k_cT rfl rfl ?_))))
    refine zL (k_seq (zI (kQ (zC rfl (o_idxN (i:=1) rfl ty85 rfl rfl (by decide) cl83 sh83 (Nat.le_of_ble_eq_true rfl) ?_)))))
    refine yL rfl ze83 ?_
    refine zA rfl (yY rfl (wI _ _) sh83 rfl rfl rfl rfl rfl ?_)
    refine zB ?_
    refine zH [(2,U.box 0 0),(5,accI M),(6,.int .i64 ↑i),(7,.int .i64 (if 1=0 then(-1:Int)else if 1=1 then p1 else p2)),(8,.int .i64 ↑1),(9,U.box (List.length Z) 0),(10,.int .i64 ↑n),(11,.int .i64 ↑i),(14,U.agg [U.bool a0,U.bool a1,U.bool a2,U.bool a3,U.bool a4,U.bool a5,U.bool a6,U.bool a7,U.bool a8,U.bool a9,U.bool a10,U.bool a11,U.bool a12,U.bool a13,U.bool a14,U.bool a15,U.bool b0,U.bool b1,U.bool b2,U.bool b3,U.bool b4,U.bool b5,U.bool b6,U.bool b7,U.bool b8,U.bool b9,U.bool b10,U.bool b11,U.bool b12,U.bool b13,U.bool b14,U.bool b15]),(15,.int .i64 ↑1)] (Z++[SB.box [U.bool b0,U.bool b1,U.bool b2,U.bool b3,U.bool b4,U.bool b5,U.bool b6,U.bool b7,U.bool b8,U.bool b9,U.bool b10,U.bool b11,U.bool b12,U.bool b13,U.bool b14,U.bool b15]]) (.n10 rfl) (zAJ _ _ _) fun fr=>?_
    refine kQ (zC rfl (yW rfl ty83 rfl rfl (by omega) (by omega) cl4 ?_))
    refine zx rfl rfl (hat _) sh4 q1 ?_
    refine zB (k_cF rfl rfl ?_)
    refine zL (k_region ?_)
    refine kz rfl (by unfold I64;omega) (zC rfl (zB ?_))
    exact⟨mm - 1,by omega,2,e2++[_],by omega,(by show Z++[_]=_;rw[hZ,List.append_assoc]),.cons rfl (.cons rfl (.cons rfl (.cons (by show U.int .i64 _=U.int .i64 p2;rw[hp2'];rfl) (.n4 rfl))))⟩
  ·rw[←hp2]at hsu
   refine zH _ _ hs3 hst3 fun fr3=>?_
   cases M with
   |nil=>
    refine kQ (kp rfl (zB (k_seq (k_cF rfl rfl ?_))))
    refine zj (k_region (zC rfl (zC rfl (zBn (es:=[.int .i64 (if 2=0 then(-1:Int)else if 2=1 then p1 else p2)]) rfl ty22 ze3 cl3 rfl rfl rfl rfl rfl rfl rfl rfl ?_))))
    refine wu rfl wT rfl rfl (by simp) (by simp) (by simp[yJ,zZ,oneU]) (by simp) ?_
    refine zA rfl (zB (k_region ?_))
    refine kz rfl (by unfold I64;omega) (zC rfl (zB ?_))
    exact⟨kk - 1,by omega,i+1,e++e2,by omega,(by show Z=_;rw[hZ,hY,List.append_assoc]),.cons rfl (.cons (by rw[hsu];rfl) (.n2 rfl))⟩
   |cons y M=>
    refine kQ (kp rfl (zB (k_seq (k_cF rfl rfl ?_))))
    refine zj (k_region (zC rfl (zC rfl (zBn (es:=[.int .i64 (if 2=0 then(-1:Int)else if 2=1 then p1 else p2)]) rfl ty22 ze3 cl3 rfl rfl rfl rfl rfl rfl rfl rfl ?_))))
    refine wt 5 rfl wT rfl rfl rfl (by simp) (by simp) (by simp[yJ,zZ,oneU]) (by simp at hlen ⊢;omega) ?_
    refine zA rfl (zB (k_region ?_))
    refine kz rfl (by unfold I64;omega) (zC rfl (zB ?_))
    exact⟨kk - 1,by omega,i+1,e++e2,by omega,(by show Z=_;rw[hZ,hY,List.append_assoc]),.cons rfl (.cons (by rw[hsu,zAg];rfl) (.n2 rfl))⟩
 ·have hie:i=n:=by omega
  have hM2:plL f g n=M:=by rw[hM,hie]
  rw[hM2]
  clear hM hM2 hsu h0 h1
  refine zH _ _ hs2 hst2 fun fr2=>?_
  cases M with
  |nil=>
   refine kQ (kp rfl (zB (k_seq (k_cF rfl (kG (by omega)) (zj (kQ (zC rfl (zC rfl (zq rfl ty22 rfl rfl ?_)))))))))
   refine zC rfl (zq rfl ty22 rfl rfl ?_)
   refine zEy rfl ty22 cl3 rfl (by simp) rfl rfl (Nat.le_refl _) ?_
   refine zA rfl (zB (zV ?_))
   refine⟨.inr rfl,_,.cons _ _ _ _ (.tmp 4) .nil,?_⟩
   exact .ro .full 1 []
  |cons y M=>
   have ht:List.take (y::M).length (zE (y::M))=zE (y::M):=List.take_of_length_le (by simp)
   refine kQ (kp rfl (zB (k_seq (k_cF rfl (kG (by omega)) (zj (kQ (zC rfl (zC rfl (zq rfl ty22 rfl (List.length_map _) ?_)))))))))
   refine zC rfl (zq rfl ty22 rfl (List.length_map _) ?_)
   refine zEy rfl ty22 cl3 rfl (by simp) rfl rfl (by simp) ?_
   refine zA rfl (zB (zV ?_))
   refine⟨.inr rfl,_,.cons _ _ _ _ (.tmp 4) .nil,?_⟩
   show UW (.u (.lst .full 1 (List.take (y::M).length (zE (y::M))))) _
   rw[ht]
   exact .ro _ _ _
end
section
variable {is:FuncId→Bool}{orc:Known}{l:Ln}
theorem fld75_1:zp Tryd.prog 75 1=some (4,22):=by kernel_rfl
theorem ze85:yM Tryd.prog 85=some ((.cons (.bool false) (.cons (.bool false) (.cons (.bool false) (.cons (.bool false) (.cons (.bool false) (.cons (.bool false) (.cons (.bool false) (.cons (.bool false) (.cons (.bool false) (.cons (.bool false) (.cons (.bool false) (.cons (.bool false) (.cons (.bool false) (.cons (.bool false) (.cons (.bool false) (.cons (.bool false) (.cons (.bool false) (.cons (.bool false) (.cons (.bool false) (.cons (.bool false) (.cons (.bool false) (.cons (.bool false) (.cons (.bool false) (.cons (.bool false) (.cons (.bool false) (.cons (.bool false) (.cons (.bool false) (.cons (.bool false) (.cons (.bool false) (.cons (.bool false) (.cons (.bool false) (.cons (.bool false) .nil)))))))))))))))))))))))))))))))):V):=by kernel_rfl
noncomputable def b73:Code:=(Tryd.f73.body).getD .skip
theorem body73:bodyOf Tryd.prog 73=some (28,b73,[.cell 2 85]):=by kernel_rfl
theorem pure73:pureFn Tryd.prog 73=true:=by kernel_rfl
abbrev duetU(l:Ln)(p:List Int):U:=.agg [.lst .ro 1 (zE l.slots),.int .i64 l.left,.int .i64 l.right,.int .i64 l.run,.lst .ro 1 (zE p)]
theorem dat_duet(l:Ln)(p:List Int)(k:Nat):Dat (k+3) (duetU l p):=.agg _ _ fun c hc=>by
 simp only[List.mem_cons,List.not_mem_nil,or_false]at hc
 rcases hc with rfl|rfl|rfl|rfl|rfl
 ·exact yG k .ro (fun h=>by cases h) 1 _
 ·exact .int _ _ _
 ·exact .int _ _ _
 ·exact .int _ _ _
 ·exact yG k .ro (fun h=>by cases h) 1 _
def plF(p:List Int)(w:Int)(k:Nat):Bool:=decide (at' p k=w)
def upF(f:Nat→Bool)(i:Nat)(v:Bool)(k:Nat):Bool:=if k=i then v else f k
theorem set0{f g:Nat→Bool}{i:Nat}{v:Bool}(h:i<16):(b16 f++b16 g).set i v=b16 (upF f i v)++b16 g:=by
 rw[List.set_append_left _ _ (by rw[zl];exact h),zFz];rfl
theorem set1{f g:Nat→Bool}{i:Nat}{v:Bool}:(b16 f++b16 g).set (16+i) v=b16 f++b16 (upF g i v):=by
 rw[List.set_append_right _ _ (by rw[zl];omega),zl,show 16+i - 16=i by omega,zFz];rfl
def toF(p:List Int)(w:Int)(i k:Nat):Bool:=decide (k<i)&&plF p w k
theorem to_up{p:List Int}{w:Int}{i:Nat}:upF (toF p w i) i (plF p w i)=toF p w (i+1):=by
 funext k
 unfold upF toF
 by_cases e:k=i
 ·subst e;rw[if_pos rfl,kF (by omega),Bool.true_and]
 ·rw[if_neg e];congr 1;exact decide_eq_decide.2 (by omega)
theorem to_all{p:List Int}{w:Int}(hw:w≠ -1):toF p w p.length=plF p w:=by
 funext k
 unfold toF
 by_cases e:k<p.length
 ·rw[kF e,Bool.true_and]
 ·rw[kG e,Bool.false_and]
  unfold plF at'
  rw[List.getElem?_eq_none (by omega)]
  exact(kG fun h=>hw h.symm).symm
set_option maxHeartbeats 16000000 in
theorem ret73(hi:Off is)(l:Ln){p:List Int}(hp:p.length≤16):RetP Tryd.prog is orc 73 [duetU l p] (spU (plF p 0) (plF p 1)):=by
 refine zw body73 pure73 (hi 73 (by decide)) rfl rfl (wA (dat_duet l p 5)) (.inl (yy _ 6)) ?_
 refine kQ (zk rfl rfl (yL rfl ze85 ?_))
 refine zB ?_
 refine zH [(1,U.box 0 0),(2,U.box 1 0)] ([SB.box [.lst .ro 1 (zE (Ln.slots l)),.int .i64 (Ln.left l),.int .i64 (Ln.right l),.int .i64 (Ln.run l),.lst .ro 1 (zE p)],SB.box [.bool false,.bool false,.bool false,.bool false,.bool false,.bool false,.bool false,.bool false,.bool false,.bool false,.bool false,.bool false,.bool false,.bool false,.bool false,.bool false,.bool false,.bool false,.bool false,.bool false,.bool false,.bool false,.bool false,.bool false,.bool false,.bool false,.bool false,.bool false,.bool false,.bool false,.bool false,.bool false]]) (.n2 rfl) rfl fun fr=>?_
 refine kQ (yL rfl ze85 ?_)
 refine zB ?_
 refine zH [(1,U.box 0 0),(2,U.box 1 0),(3,U.box 2 0)] ([SB.box [.lst .ro 1 (zE (Ln.slots l)),.int .i64 (Ln.left l),.int .i64 (Ln.right l),.int .i64 (Ln.run l),.lst .ro 1 (zE p)],SB.box [.bool false,.bool false,.bool false,.bool false,.bool false,.bool false,.bool false,.bool false,.bool false,.bool false,.bool false,.bool false,.bool false,.bool false,.bool false,.bool false,.bool false,.bool false,.bool false,.bool false,.bool false,.bool false,.bool false,.bool false,.bool false,.bool false,.bool false,.bool false,.bool false,.bool false,.bool false,.bool false],SB.box [.bool false,.bool false,.bool false,.bool false,.bool false,.bool false,.bool false,.bool false,.bool false,.bool false,.bool false,.bool false,.bool false,.bool false,.bool false,.bool false,.bool false,.bool false,.bool false,.bool false,.bool false,.bool false,.bool false,.bool false,.bool false,.bool false,.bool false,.bool false,.bool false,.bool false,.bool false,.bool false]]) (.n3 rfl) rfl fun fr=>?_
 refine k_seq (kQ (kw rfl fld75_1 (kA sh22 rfl (zq rfl ty22 rfl (List.length_map _) ?_))))
 refine zC rfl (zB (zI ?_))
 refine yX (fun kk s2=>∃i:Nat,kk+i=p.length∧s2.st=[.box [.lst .ro 1 (zE l.slots),.int .i64 l.left,.int .i64 l.right,.int .i64 l.run,.lst .ro 1 (zE p)],.box (zK (b16 (fun _=>false)++b16 fun _=>false)),.box (zK (b16 (toF p 0 i)++b16 (toF p 1 i)))]∧Holds s2 [(2,.box 1 0),(3,.box 2 0),(8,.lst .ro 1 (zE p)),(9,.int .i64 p.length),(10,.int .i64 i)]) (fun kk s2 hI=>?_) p.length _ ⟨0,rfl,rfl,.c4 rfl rfl rfl rfl (.n1 rfl)⟩
 obtain⟨i,hk,hst2,hs2⟩:=hI
 by_cases hin:i<p.length
 ·obtain⟨x,hx⟩:∃x,p[i]? =some x:=⟨p[i],List.getElem?_eq_getElem hin⟩
  have ha:at' p i=x:=by unfold at';rw[hx];rfl
  have hb0:(fun v=>v=decide (x=0)) (plF p 0 i):=by show plF p 0 i=_;unfold plF;rw[ha]
  have hb1:(fun v=>v=decide (x=1)) (plF p 1 i):=by show plF p 1 i=_;unfold plF;rw[ha]
  have hC0:(b16 (toF p 0 i)++b16 (toF p 1 i)).length=32:=by rw[List.length_append,zl,zl]
  obtain⟨C,hC⟩:∃C,C=b16 (toF p 0 i)++b16 (toF p 1 i):=⟨_,rfl⟩
  rw[←hC]at hst2 hC0
  refine zH _ _ hs2 hst2 fun fr2=>?_
  refine kQ (kp rfl (zB (k_seq (k_cT rfl (kF (by omega)) (zL (k_seq (zI (kQ (zC rfl (yA (u:=.int .i64 (x)) rfl ty22 rfl rfl (Int.natCast_nonneg _) (by simp[hx]) cl3 ?_))))))))))
  refine kC sh3 rfl ?_
  refine zA rfl (zA rfl (zB (kQ (zC rfl (zB (zI ?_))))))
  refine yX (fun mm s3=>∃(j:Nat) (D:List Bool),mm+j=2∧D.length=32∧D=(if j=0 then C else if j=1 then C.set i (decide (x=0))else(C.set i (decide (x=0))).set (16+i) (decide (x=1)))∧s3.st=[.box [.lst .ro 1 (zE l.slots),.int .i64 l.left,.int .i64 l.right,.int .i64 l.run,.lst .ro 1 (zE p)],.box (zK (b16 (fun _=>false)++b16 fun _=>false)),.box (zK D)]∧Holds s3 [(2,.box 1 0),(3,.box 2 0),(4,.int .i64 i),(5,.int .i64 x),(8,.lst .ro 1 (zE p)),(9,.int .i64 p.length),(10,.int .i64 i),(15,.int .i64 j)]) (fun mm s3 hJ=>?_) 2 _ ⟨0,C,rfl,hC0,rfl,rfl,.c4 rfl rfl rfl rfl (.n4 rfl)⟩
  obtain⟨j,D,hj,hD,hDe,hst3,hs3⟩:=hJ
  have hj3:j=0∨j=1∨j=2:=by omega
  rcases hj3 with rfl|rfl|rfl
  ·have hbl:Nat.blt (0+((0:Nat):Int).toNat*16+(i:Int).toNat*1) (zK D).length=true:=by rw[Nat.blt_eq];simp[hD];omega
   have hgo:(zK D).set (0+((0:Nat):Int).toNat*16+(i:Int).toNat*1) (.bool (decide (x=((0:Nat):Int))))=zK (D.set i (decide (x=0))):=by
    rw[show 0+((0:Nat):Int).toNat*16+(i:Int).toNat*1=i by simp,zFI];rfl
   refine zH _ _ hs3 hst3 fun fr3=>?_
   refine kQ (kp rfl (zB (k_seq (k_cT rfl rfl ?_))))
   refine zL (k_seq (zI (kQ (zC rfl (zA rfl (zB (k_region (zC rfl (zC rfl (zC rfl (zC rfl (ks rfl (yW rfl ty85 rfl rfl (by omega) (by omega) cl83 ?_)))))))))))))
   refine yW rfl ty83 rfl rfl (by omega) (by omega) cl4 ?_
   refine wO rfl rfl sh4 hbl rfl ?_
   refine zB ?_
   refine zH [(2,U.box 1 0),(3,U.box 2 0),(4,.int .i64 ↑i),(5,.int .i64 x),(8,.lst .ro 1 (zE p)),(9,.int .i64 ↑(List.length p)),(10,.int .i64 ↑i),(15,.int .i64 ↑0)] ([SB.box [.lst .ro 1 (zE (Ln.slots l)),.int .i64 (Ln.left l),.int .i64 (Ln.right l),.int .i64 (Ln.run l),.lst .ro 1 (zE p)],SB.box (zK ((b16 fun x ↦ Bool.false)++b16 fun x ↦ Bool.false)),SB.box (List.set (zK D) (0+Int.toNat ↑0*16+Int.toNat ↑i*1) (U.bool (decide (x= ↑0))))]) (.n8 rfl) rfl fun fr=>?_
   refine k_region ?_
   refine kz rfl (by unfold I64;omega) (zC rfl (zB ?_))
   exact⟨mm - 1,by omega,1,D.set i (decide (x=0)),by omega,by rw[List.length_set];exact hD,by rw[hDe];rfl,(by show [_,_,SB.box ((zK D).set (0+((0:Nat):Int).toNat*16+(i:Int).toNat*1) (.bool (decide (x=((0:Nat):Int)))))]=[_,_,_];rw[hgo]),.c4 rfl rfl rfl rfl (.n4 rfl)⟩
  ·have hbl:Nat.blt (0+((1:Nat):Int).toNat*16+(i:Int).toNat*1) (zK D).length=true:=by rw[Nat.blt_eq];simp[hD];omega
   have hgo:(zK D).set (0+((1:Nat):Int).toNat*16+(i:Int).toNat*1) (.bool (decide (x=((1:Nat):Int))))=zK (D.set (16+i) (decide (x=1))):=by
    rw[show 0+((1:Nat):Int).toNat*16+(i:Int).toNat*1=16+i by simp,zFI];rfl
   refine zH _ _ hs3 hst3 fun fr3=>?_
   refine kQ (kp rfl (zB (k_seq (k_cT rfl rfl ?_))))
   refine zL (k_seq (zI (kQ (zC rfl (zA rfl (zB (k_region (zC rfl (zC rfl (zC rfl (zC rfl (ks rfl (yW rfl ty85 rfl rfl (by omega) (by omega) cl83 ?_)))))))))))))
   refine yW rfl ty83 rfl rfl (by omega) (by omega) cl4 ?_
   refine wO rfl rfl sh4 hbl rfl ?_
   refine zB ?_
   refine zH [(2,U.box 1 0),(3,U.box 2 0),(4,.int .i64 ↑i),(5,.int .i64 x),(8,.lst .ro 1 (zE p)),(9,.int .i64 ↑(List.length p)),(10,.int .i64 ↑i),(15,.int .i64 ↑1)] ([SB.box [.lst .ro 1 (zE (Ln.slots l)),.int .i64 (Ln.left l),.int .i64 (Ln.right l),.int .i64 (Ln.run l),.lst .ro 1 (zE p)],SB.box (zK ((b16 fun x ↦ Bool.false)++b16 fun x ↦ Bool.false)),SB.box (List.set (zK D) (0+Int.toNat ↑1*16+Int.toNat ↑i*1) (U.bool (decide (x= ↑1))))]) (.n8 rfl) rfl fun fr=>?_
   refine k_region ?_
   refine kz rfl (by unfold I64;omega) (zC rfl (zB ?_))
   exact⟨mm - 1,by omega,2,D.set (16+i) (decide (x=1)),by omega,by rw[List.length_set];exact hD,by rw[hDe];rfl,(by show [_,_,SB.box ((zK D).set (0+((1:Nat):Int).toNat*16+(i:Int).toNat*1) (.bool (decide (x=((1:Nat):Int)))))]=[_,_,_];rw[hgo]),.c4 rfl rfl rfl rfl (.n4 rfl)⟩
  ·have hDf:D=b16 (toF p 0 (i+1))++b16 (toF p 1 (i+1)):=by
    have hDe:D=(C.set i (decide (x=0))).set (16+i) (decide (x=1)):=hDe
    rw[hDe,hC,←hb0,←hb1,set0 (by omega),set1,to_up,to_up]
   refine zH _ _ hs3 hst3 fun fr3=>?_
   refine kQ (kp rfl (zB (k_seq (k_cF rfl rfl ?_))))
   refine zj (k_region ?_)
   refine kz rfl (by unfold I64;omega) (zC rfl (zB ?_))
   exact⟨kk - 1,by omega,i+1,by omega,(by show [_,_,SB.box (zK D)]=_;rw[hDf]),.c4 rfl rfl rfl rfl (.n1 rfl)⟩
 ·have hie:i=p.length:=by omega
  have e0:toF p 0 i=plF p 0:=by rw[hie];exact to_all (by decide)
  have e1:toF p 1 i=plF p 1:=by rw[hie];exact to_all (by decide)
  rw[e0,e1]at hst2
  clear e0 e1
  unfold spU
  have hs0:=zl (plF p 0)
  have hs1:=zl (plF p 1)
  generalize b16 (plF p 0)=S0 at*
  generalize b16 (plF p 1)=S1 at*
  obtain⟨a0,a1,a2,a3,a4,a5,a6,a7,a8,a9,a10,a11,a12,a13,a14,a15,rfl⟩:=zDb hs0
  obtain⟨b0,b1,b2,b3,b4,b5,b6,b7,b8,b9,b10,b11,b12,b13,b14,b15,rfl⟩:=zDb hs1
  refine zH _ _ hs2 hst2 fun fr2=>?_
  refine kQ (kp rfl (zB (k_seq (k_cF rfl (kG (by omega)) (zj (kQ (kB sh85 rfl (yY rfl rfl sh85 rfl rfl rfl rfl rfl ?_))))))))
  refine zB (zV ?_)
  refine⟨.inr rfl,_,.cons _ _ _ _ (.cellN 2 85 _ _ _ _ rfl rfl sh85 rfl) .nil,?_⟩
  exact .refl _
  done
end
section
variable {is:FuncId→Bool}{orc:Known}{l:Ln}
theorem pl75:zFV Tryd.prog 75=some [(0,4),(4,1)]:=by kernel_rfl
theorem sh73:shOf Tryd.prog 73=.many 4:=by kernel_rfl
theorem sh75:shOf Tryd.prog 75=.many 5:=by kernel_rfl
theorem ze75:yM Tryd.prog 75=some ((.cons .nils (.cons (.int .i64 0) (.cons (.int .i64 0) (.cons (.int .i64 0) (.cons .nils .nil))))):V):=by kernel_rfl
theorem zDh(S:List Bool):FlatU (.agg (zK S)):=.agg _ fun c hc=>by
 obtain⟨x,_,rfl⟩:=List.mem_map.1 hc
 exact .bool _
end
end Go.Proofs.YthhbfbmfhldbaaaDoor.locks
