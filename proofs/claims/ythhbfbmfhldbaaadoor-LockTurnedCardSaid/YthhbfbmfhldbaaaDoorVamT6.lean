import Derived.Test.YthhbfbmfhldbaaaDoorVamT5
set_option linter.unusedVariables false
set_option linter.unusedSimpArgs false
set_option linter.constructorNameAsVariable false
namespace Go.Proofs.YthhbfbmfhldbaaaDoor.locks
open Vam
section
variable {is:FuncId→Bool}{orc:Known}{l:Ln}
theorem cl83:Program.cellsOf Tryd.prog 83=16:=by kernel_rfl
theorem sh85:shOf Tryd.prog 85=.many 32:=by kernel_rfl
theorem ty85:tyOf Tryd.prog 85=.array 2 83:=by kernel_rfl
noncomputable def b64:Code:=(Tryd.f64.body).getD .skip
theorem body64:bodyOf Tryd.prog 64=some (35,b64,[.tmp 4]):=by kernel_rfl
theorem pure64:pureFn Tryd.prog 64=true:=by kernel_rfl
abbrev spU(f g:Nat→Bool):U:=.agg (zJ (b16 f++b16 g))
def plI(f g:Nat→Bool)(k:Nat):Int:=if g k=true then 1 else if f k=true then 0 else -1
def plL(f g:Nat→Bool)(n:Nat):List Int:=(List.range n).map (plI f g)
theorem plL_succ(f g:Nat→Bool)(n:Nat):plL f g (n+1)=plL f g n++[plI f g n]:=by simp[plL,List.range_succ]
theorem plL_len(f g:Nat→Bool)(n:Nat):(plL f g n).length=n:=by simp[plL]
set_option maxHeartbeats 16000000 in
theorem ret64(hi:Off is)(f g:Nat→Bool){n:Nat}(hn:n≤16):RetP Tryd.prog is orc 64 [spU f g,.int .i64 n] (.lst .ro 1 (zF (plL f g n))):=by
 refine yY body64 pure64 (hi 64 (by decide)) rfl rfl (zAs (wE _ 6) (.int _ _ _)) (.inl (wp 6 .ro (fun h=>by cases h) 1 _)) ?_
 have h0:∀i:Nat,i<16→(zJ (b16 f))[0+(i:Int).toNat*1]? =some (.bool (f i)):=fun i h=>by rw[show 0+(i:Int).toNat*1=i by omega];exact zBu (zCa h)
 have h1:∀i:Nat,i<16→(zJ (b16 g))[0+(i:Int).toNat*1]? =some (.bool (g i)):=fun i h=>by rw[show 0+(i:Int).toNat*1=i by omega];exact zBu (zCa h)
 have hs0:=zw f
 have hs1:=zw g
 unfold spU
 generalize b16 f=S0 at*
 generalize b16 g=S1 at*
 obtain⟨a0,a1,a2,a3,a4,a5,a6,a7,a8,a9,a10,a11,a12,a13,a14,a15,rfl⟩:=zGG hs0
 obtain⟨b0,b1,b2,b3,b4,b5,b6,b7,b8,b9,b10,b11,b12,b13,b14,b15,rfl⟩:=zGG hs1
 obtain⟨V,hV⟩:∃V:List SB,V=[.box (zJ ([a0,a1,a2,a3,a4,a5,a6,a7,a8,a9,a10,a11,a12,a13,a14,a15]++[b0,b1,b2,b3,b4,b5,b6,b7,b8,b9,b10,b11,b12,b13,b14,b15]))]:=⟨_,rfl⟩
 refine kQ (yG rfl rfl (zB rfl (zA ?_)))
 refine zM [(1,.int .i64 ↑n),(2,U.box 0 0)] ([SB.box [U.bool a0,U.bool a1,U.bool a2,U.bool a3,U.bool a4,U.bool a5,U.bool a6,U.bool a7,U.bool a8,U.bool a9,U.bool a10,U.bool a11,U.bool a12,U.bool a13,U.bool a14,U.bool a15,U.bool b0,U.bool b1,U.bool b2,U.bool b3,U.bool b4,U.bool b5,U.bool b6,U.bool b7,U.bool b8,U.bool b9,U.bool b10,U.bool b11,U.bool b12,U.bool b13,U.bool b14,U.bool b15]]) (.n2 rfl) rfl fun fr=>?_
 refine kQ (zB rfl (zA (k_seq (kQ (zC rfl (zC rfl (zA (zO ?_))))))))
 refine wZ (fun kk s2=>∃(i:Nat) (e:List SB),kk+i=n∧s2.st=V++e∧Holds s2 [(2,.box 0 0),(5,accI (plL f g i)),(10,.int .i64 n),(11,.int .i64 i)]) (fun kk s2 hI=>?_) n _ ⟨0,[],rfl,(by rw[hV];rfl),.c4 rfl rfl rfl rfl (.nil rfl)⟩
 obtain⟨i,e,hk,hst2,hs2⟩:=hI
 have hsu:=plL_succ f g i
 have hlen:=plL_len f g i
 obtain⟨M,hM⟩:∃M,M=plL f g i:=⟨_,rfl⟩
 rw[←hM]at hsu hlen hs2
 by_cases hin:i<n
 ·have q0:=h0 i (by omega)
  have q1:=h1 i (by omega)
  clear h0 h1
  obtain⟨p1,hp1⟩:∃p1:Int,p1=if f i=true then 0 else -1:=⟨_,rfl⟩
  obtain⟨p2,hp2⟩:∃p2:Int,p2=plI f g i:=⟨_,rfl⟩
  have hp2':p2=if g i=true then 1 else p1:=by rw[hp2,hp1];rfl
  have hV0:(V++e)[0]? =some (.box [.bool a0,.bool a1,.bool a2,.bool a3,.bool a4,.bool a5,.bool a6,.bool a7,.bool a8,.bool a9,.bool a10,.bool a11,.bool a12,.bool a13,.bool a14,.bool a15,.bool b0,.bool b1,.bool b2,.bool b3,.bool b4,.bool b5,.bool b6,.bool b7,.bool b8,.bool b9,.bool b10,.bool b11,.bool b12,.bool b13,.bool b14,.bool b15]):=by rw[hV];rfl
  obtain⟨Y,hY⟩:∃Y,Y=V++e:=⟨_,rfl⟩
  rw[←hY]at hst2 hV0
  refine zM _ _ hs2 hst2 fun fr2=>?_
  refine kQ (kp rfl (zA (k_seq (k_cT rfl (kF (by omega)) (zU (k_seq (zO (kQ (zC rfl (zB rfl (zA (kQ (zB rfl (zA (k_seq ?_)))))))))))))))
  refine kQ (zDx rfl rfl hV0 sh85 rfl ?_)
  refine zC rfl (zA (zO ?_))
  refine wZ (fun mm s3=>∃(j:Nat) (e2:List SB),mm+j=2∧s3.st=Y++e2∧Holds s3 [(2,.box 0 0),(5,accI M),(6,.int .i64 i),(7,.int .i64 (if j=0 then -1 else if j=1 then p1 else p2)),(10,.int .i64 n),(11,.int .i64 i),(14,.agg [.bool a0,.bool a1,.bool a2,.bool a3,.bool a4,.bool a5,.bool a6,.bool a7,.bool a8,.bool a9,.bool a10,.bool a11,.bool a12,.bool a13,.bool a14,.bool a15,.bool b0,.bool b1,.bool b2,.bool b3,.bool b4,.bool b5,.bool b6,.bool b7,.bool b8,.bool b9,.bool b10,.bool b11,.bool b12,.bool b13,.bool b14,.bool b15]),(15,.int .i64 j)]) (fun mm s3 hJ=>?_) 2 _ ⟨0,[],rfl,(by rw[List.append_nil];rfl),.c4 rfl rfl rfl rfl (.n4 rfl)⟩
  obtain⟨j,e2,hj,hst3,hs3⟩:=hJ
  obtain⟨Z,hZ⟩:∃Z,Z=Y++e2:=⟨_,rfl⟩
  rw[←hZ]at hst3
  have hj3:j=0∨j=1∨j=2:=by omega
  have hat:∀x:SB,(Z++[x])[Z.length]? =some x:=fun x=>by simp
  have hset:∀x y:SB,(Z++[x]).set Z.length y=Z++[y]:=wz Z
  rcases hj3 with rfl|rfl|rfl
  ·refine zM _ _ hs3 hst3 fun fr3=>?_
   cases c:f i with
   |true=>
    rw[c]at q0
    rw[c,if_pos rfl]at hp1
    refine kQ (kp rfl (zA (k_seq (k_cT rfl rfl ?_))))
    refine zU (k_seq (zO (kQ (zC rfl (o_idxN (i:=0) rfl ty85 rfl rfl (by decide) cl83 sh83 (Nat.le_of_ble_eq_true rfl) ?_)))))
    refine yQ rfl ze83 ?_
    refine zB rfl (yS rfl (wJ _ _) sh83 rfl rfl rfl rfl rfl ?_)
    refine zA ?_
    refine zM [(2,U.box 0 0),(5,accI M),(6,.int .i64 ↑i),(7,.int .i64 (if 0=0 then(-1:Int)else if 0=1 then p1 else p2)),(8,.int .i64 ↑0),(9,U.box (List.length Z) 0),(10,.int .i64 ↑n),(11,.int .i64 ↑i),(14,U.agg [U.bool a0,U.bool a1,U.bool a2,U.bool a3,U.bool a4,U.bool a5,U.bool a6,U.bool a7,U.bool a8,U.bool a9,U.bool a10,U.bool a11,U.bool a12,U.bool a13,U.bool a14,U.bool a15,U.bool b0,U.bool b1,U.bool b2,U.bool b3,U.bool b4,U.bool b5,U.bool b6,U.bool b7,U.bool b8,U.bool b9,U.bool b10,U.bool b11,U.bool b12,U.bool b13,U.bool b14,U.bool b15]),(15,.int .i64 ↑0)] (Z++[SB.box [U.bool a0,U.bool a1,U.bool a2,U.bool a3,U.bool a4,U.bool a5,U.bool a6,U.bool a7,U.bool a8,U.bool a9,U.bool a10,U.bool a11,U.bool a12,U.bool a13,U.bool a14,U.bool a15]]) (.n10 rfl) (wz _ _ _) fun fr=>?_
    refine kQ (zC rfl (yV rfl ty83 rfl rfl (by omega) (by omega) cl4 ?_))
    refine zo rfl rfl (hat _) sh4 q0 ?_
    refine zA (k_cT rfl rfl ?_)
    refine k_region (zC rfl (zB rfl (zA (k_region ?_))))
    refine kz rfl (by unfold I64;omega) (zC rfl (zA ?_))
    exact⟨mm - 1,by omega,1,e2++[_],by omega,(by show Z++[_]=_;rw[hZ,List.append_assoc]),.cons rfl (.cons rfl (.cons rfl (.cons (by show U.int .i64 _=U.int .i64 p1;rw[hp1]) (.n4 rfl))))⟩
   |false=>
    rw[c]at q0
    rw[c,if_neg (by decide)]at hp1
    refine kQ (kp rfl (zA (k_seq (k_cT rfl rfl ?_))))
    refine zU (k_seq (zO (kQ (zC rfl (o_idxN (i:=0) rfl ty85 rfl rfl (by decide) cl83 sh83 (Nat.le_of_ble_eq_true rfl) ?_)))))
    refine yQ rfl ze83 ?_
    refine zB rfl (yS rfl (wJ _ _) sh83 rfl rfl rfl rfl rfl ?_)
    refine zA ?_
    refine zM [(2,U.box 0 0),(5,accI M),(6,.int .i64 ↑i),(7,.int .i64 (if 0=0 then(-1:Int)else if 0=1 then p1 else p2)),(8,.int .i64 ↑0),(9,U.box (List.length Z) 0),(10,.int .i64 ↑n),(11,.int .i64 ↑i),(14,U.agg [U.bool a0,U.bool a1,U.bool a2,U.bool a3,U.bool a4,U.bool a5,U.bool a6,U.bool a7,U.bool a8,U.bool a9,U.bool a10,U.bool a11,U.bool a12,U.bool a13,U.bool a14,U.bool a15,U.bool b0,U.bool b1,U.bool b2,U.bool b3,U.bool b4,U.bool b5,U.bool b6,U.bool b7,U.bool b8,U.bool b9,U.bool b10,U.bool b11,U.bool b12,U.bool b13,U.bool b14,U.bool b15]),(15,.int .i64 ↑0)] (Z++[SB.box [U.bool a0,U.bool a1,U.bool a2,U.bool a3,U.bool a4,U.bool a5,U.bool a6,U.bool a7,U.bool a8,U.bool a9,U.bool a10,U.bool a11,U.bool a12,U.bool a13,U.bool a14,U.bool a15]]) (.n10 rfl) (wz _ _ _) fun fr=>?_
    refine kQ (zC rfl (yV rfl ty83 rfl rfl (by omega) (by omega) cl4 ?_))
    refine zo rfl rfl (hat _) sh4 q0 ?_
    refine zA (k_cF rfl rfl ?_)
    refine zU (k_region ?_)
    refine kz rfl (by unfold I64;omega) (zC rfl (zA ?_))
    exact⟨mm - 1,by omega,1,e2++[_],by omega,(by show Z++[_]=_;rw[hZ,List.append_assoc]),.cons rfl (.cons rfl (.cons rfl (.cons (by show U.int .i64 _=U.int .i64 p1;rw[hp1];rfl) (.n4 rfl))))⟩
  ·refine zM _ _ hs3 hst3 fun fr3=>?_
   cases c:g i with
   |true=>
    rw[c]at q1
    rw[c,if_pos rfl]at hp2'
    refine kQ (kp rfl (zA (k_seq (k_cT rfl rfl ?_))))
    refine zU (k_seq (zO (kQ (zC rfl (o_idxN (i:=1) rfl ty85 rfl rfl (by decide) cl83 sh83 (Nat.le_of_ble_eq_true rfl) ?_)))))
    refine yQ rfl ze83 ?_
    refine zB rfl (yS rfl (wJ _ _) sh83 rfl rfl rfl rfl rfl ?_)
    refine zA ?_
    refine zM [(2,U.box 0 0),(5,accI M),(6,.int .i64 ↑i),(7,.int .i64 (if 1=0 then(-1:Int)else if 1=1 then p1 else p2)),(8,.int .i64 ↑1),(9,U.box (List.length Z) 0),(10,.int .i64 ↑n),(11,.int .i64 ↑i),(14,U.agg [U.bool a0,U.bool a1,U.bool a2,U.bool a3,U.bool a4,U.bool a5,U.bool a6,U.bool a7,U.bool a8,U.bool a9,U.bool a10,U.bool a11,U.bool a12,U.bool a13,U.bool a14,U.bool a15,U.bool b0,U.bool b1,U.bool b2,U.bool b3,U.bool b4,U.bool b5,U.bool b6,U.bool b7,U.bool b8,U.bool b9,U.bool b10,U.bool b11,U.bool b12,U.bool b13,U.bool b14,U.bool b15]),(15,.int .i64 ↑1)] (Z++[SB.box [U.bool b0,U.bool b1,U.bool b2,U.bool b3,U.bool b4,U.bool b5,U.bool b6,U.bool b7,U.bool b8,U.bool b9,U.bool b10,U.bool b11,U.bool b12,U.bool b13,U.bool b14,U.bool b15]]) (.n10 rfl) (wz _ _ _) fun fr=>?_
    refine kQ (zC rfl (yV rfl ty83 rfl rfl (by omega) (by omega) cl4 ?_))
    refine zo rfl rfl (hat _) sh4 q1 ?_
    refine zA (k_cT rfl rfl ?_)
    refine k_region (zC rfl (zB rfl (zA (k_region ?_))))
    refine kz rfl (by unfold I64;omega) (zC rfl (zA ?_))
    exact⟨mm - 1,by omega,2,e2++[_],by omega,(by show Z++[_]=_;rw[hZ,List.append_assoc]),.cons rfl (.cons rfl (.cons rfl (.cons (by show U.int .i64 _=U.int .i64 p2;rw[hp2']) (.n4 rfl))))⟩
   |false=>
    rw[c]at q1
    rw[c,if_neg (by decide)]at hp2'
    refine kQ (kp rfl (zA (k_seq (k_cT rfl rfl ?_))))
    refine zU (k_seq (zO (kQ (zC rfl (o_idxN (i:=1) rfl ty85 rfl rfl (by decide) cl83 sh83 (Nat.le_of_ble_eq_true rfl) ?_)))))
    refine yQ rfl ze83 ?_
    refine zB rfl (yS rfl (wJ _ _) sh83 rfl rfl rfl rfl rfl ?_)
    refine zA ?_
    refine zM [(2,U.box 0 0),(5,accI M),(6,.int .i64 ↑i),(7,.int .i64 (if 1=0 then(-1:Int)else if 1=1 then p1 else p2)),(8,.int .i64 ↑1),(9,U.box (List.length Z) 0),(10,.int .i64 ↑n),(11,.int .i64 ↑i),(14,U.agg [U.bool a0,U.bool a1,U.bool a2,U.bool a3,U.bool a4,U.bool a5,U.bool a6,U.bool a7,U.bool a8,U.bool a9,U.bool a10,U.bool a11,U.bool a12,U.bool a13,U.bool a14,U.bool a15,U.bool b0,U.bool b1,U.bool b2,U.bool b3,U.bool b4,U.bool b5,U.bool b6,U.bool b7,U.bool b8,U.bool b9,U.bool b10,U.bool b11,U.bool b12,U.bool b13,U.bool b14,U.bool b15]),(15,.int .i64 ↑1)] (Z++[SB.box [U.bool b0,U.bool b1,U.bool b2,U.bool b3,U.bool b4,U.bool b5,U.bool b6,U.bool b7,U.bool b8,U.bool b9,U.bool b10,U.bool b11,U.bool b12,U.bool b13,U.bool b14,U.bool b15]]) (.n10 rfl) (wz _ _ _) fun fr=>?_
    refine kQ (zC rfl (yV rfl ty83 rfl rfl (by omega) (by omega) cl4 ?_))
    refine zo rfl rfl (hat _) sh4 q1 ?_
    refine zA (k_cF rfl rfl ?_)
    refine zU (k_region ?_)
    refine kz rfl (by unfold I64;omega) (zC rfl (zA ?_))
    exact⟨mm - 1,by omega,2,e2++[_],by omega,(by show Z++[_]=_;rw[hZ,List.append_assoc]),.cons rfl (.cons rfl (.cons rfl (.cons (by show U.int .i64 _=U.int .i64 p2;rw[hp2'];rfl) (.n4 rfl))))⟩
  ·rw[←hp2]at hsu
   refine zM _ _ hs3 hst3 fun fr3=>?_
   cases M with
   |nil=>
    refine kQ (kp rfl (zA (k_seq (k_cF rfl rfl ?_))))
    refine yW (k_region (zC rfl (zC rfl (o_lit (es:=[.int .i64 (if 2=0 then(-1:Int)else if 2=1 then p1 else p2)]) rfl ty22 ze3 cl3 rfl rfl rfl rfl rfl rfl rfl rfl ?_))))
    refine zFa rfl zCc rfl rfl (by simp) (by simp) (by simp[zl,zZ,oneU]) (by simp) ?_
    refine zB rfl (zA (k_region ?_))
    refine kz rfl (by unfold I64;omega) (zC rfl (zA ?_))
    exact⟨kk - 1,by omega,i+1,e++e2,by omega,(by show Z=_;rw[hZ,hY,List.append_assoc]),.cons rfl (.cons (by rw[hsu];rfl) (.n2 rfl))⟩
   |cons y M=>
    refine kQ (kp rfl (zA (k_seq (k_cF rfl rfl ?_))))
    refine yW (k_region (zC rfl (zC rfl (o_lit (es:=[.int .i64 (if 2=0 then(-1:Int)else if 2=1 then p1 else p2)]) rfl ty22 ze3 cl3 rfl rfl rfl rfl rfl rfl rfl rfl ?_))))
    refine zFZ 5 rfl zCc rfl rfl rfl (by simp) (by simp) (by simp[zl,zZ,oneU]) (by simp at hlen ⊢;omega) ?_
    refine zB rfl (zA (k_region ?_))
    refine kz rfl (by unfold I64;omega) (zC rfl (zA ?_))
    exact⟨kk - 1,by omega,i+1,e++e2,by omega,(by show Z=_;rw[hZ,hY,List.append_assoc]),.cons rfl (.cons (by rw[hsu,zFz];rfl) (.n2 rfl))⟩
 ·have hie:i=n:=by omega
  have hM2:plL f g n=M:=by rw[hM,hie]
  rw[hM2]
  clear hM hM2 hsu h0 h1
  refine zM _ _ hs2 hst2 fun fr2=>?_
  cases M with
  |nil=>
   refine kQ (kp rfl (zA (k_seq (k_cF rfl (kG (by omega)) (yW (kQ (zC rfl (zC rfl (yy rfl ty22 rfl rfl ?_)))))))))
   refine zC rfl (yy rfl ty22 rfl rfl ?_)
   refine zEw rfl ty22 cl3 rfl (by simp) rfl rfl (Nat.le_refl _) ?_
   refine zB rfl (zA (zk ?_))
   refine⟨.inr rfl,_,.cons _ _ _ _ (.tmp 4) .nil,?_⟩
   exact .ro .full 1 []
  |cons y M=>
   have ht:List.take (y::M).length (zF (y::M))=zF (y::M):=List.take_of_length_le (by simp)
   refine kQ (kp rfl (zA (k_seq (k_cF rfl (kG (by omega)) (yW (kQ (zC rfl (zC rfl (yy rfl ty22 rfl (List.length_map _) ?_)))))))))
   refine zC rfl (yy rfl ty22 rfl (List.length_map _) ?_)
   refine zEw rfl ty22 cl3 rfl (by simp) rfl rfl (by simp) ?_
   refine zB rfl (zA (zk ?_))
   refine⟨.inr rfl,_,.cons _ _ _ _ (.tmp 4) .nil,?_⟩
   show UW (.u (.lst .full 1 (List.take (y::M).length (zF (y::M))))) _
   rw[ht]
   exact .ro _ _ _
end
section
variable {is:FuncId→Bool}{orc:Known}{l:Ln}
theorem ze85:yF Tryd.prog 85=some ((.cons (.bool false) (.cons (.bool false) (.cons (.bool false) (.cons (.bool false) (.cons (.bool false) (.cons (.bool false) (.cons (.bool false) (.cons (.bool false) (.cons (.bool false) (.cons (.bool false) (.cons (.bool false) (.cons (.bool false) (.cons (.bool false) (.cons (.bool false) (.cons (.bool false) (.cons (.bool false) (.cons (.bool false) (.cons (.bool false) (.cons (.bool false) (.cons (.bool false) (.cons (.bool false) (.cons (.bool false) (.cons (.bool false) (.cons (.bool false) (.cons (.bool false) (.cons (.bool false) (.cons (.bool false) (.cons (.bool false) (.cons (.bool false) (.cons (.bool false) (.cons (.bool false) (.cons (.bool false) .nil)))))))))))))))))))))))))))))))):V):=by kernel_rfl
def plF(p:List Int)(w:Int)(k:Nat):Bool:=decide (at' p k=w)
def upF(f:Nat→Bool)(i:Nat)(v:Bool)(k:Nat):Bool:=if k=i then v else f k
theorem set0{f g:Nat→Bool}{i:Nat}{v:Bool}(h:i<16):(b16 f++b16 g).set i v=b16 (upF f i v)++b16 g:=by
 rw[List.set_append_left _ _ (by rw[zw];exact h),zFw];rfl
theorem set1{f g:Nat→Bool}{i:Nat}{v:Bool}:(b16 f++b16 g).set (16+i) v=b16 f++b16 (upF g i v):=by
 rw[List.set_append_right _ _ (by rw[zw];omega),zw,show 16+i - 16=i by omega,zFw];rfl
end
section
variable {is:FuncId→Bool}{orc:Known}{l:Ln}
theorem sh73:shOf Tryd.prog 73=.many 4:=by kernel_rfl
theorem zFp(S:List Bool):FlatU (.agg (zJ S)):=.agg _ fun c hc=>by
 obtain⟨x,_,rfl⟩:=List.mem_map.1 hc
 exact .bool _
end
end Go.Proofs.YthhbfbmfhldbaaaDoor.locks
