import Derived.Test.YtinhcdijbcamaaaVamT19
set_option linter.unusedVariables false
set_option linter.unusedSimpArgs false
set_option linter.constructorNameAsVariable false
namespace Go.Proofs.Ytinhcdijbcamaaa.tuneTrue
open Vam
variable {is:FuncId→Bool}{orc:Known}
theorem by61:Program.bytesOf Try.prog 61=48:=by kernel_rfl
theorem pl61:zFn Try.prog 61=some [(0,1),(1,1)]:=by kernel_rfl
theorem ap23_23:AppT Try.prog 23 23 61 2 48 ((.cons .nils (.cons .nils .nil)):V):=⟨ty23,⟨_,ty23⟩,cl61,by decide,by61,ze61,rfl⟩
noncomputable def b37:Code:=(Try.f37.body).getD .skip
theorem body37:bodyOf Try.prog 37=some (141,b37,[.cell 4 28,.tmp 5]):=by kernel_rfl
theorem pure37:pureFn Try.prog 37=true:=by kernel_rfl
variable {t:Ts}{J:List Jn}{v x y a b c d:Int}{st Y Z:List SB}{l:List Int}
def easeK(l:List Int)(q:Scl)(k:Nat):Two:=⟨min (((q.steps[k]?).map Two.a).getD 0) ((1000*pL l ((q.keys[k+1]?).getD 0)) / pL l ((q.keys[k]?).getD 0)),max (((q.steps[k]?).map Two.b).getD 0) (-((-(1000*pL l ((q.keys[k+1]?).getD 0))) / pL l ((q.keys[k]?).getD 0)))⟩
def zHI(l:List Int)(q:Scl)(n:Nat):List Two:=(List.range n).map (easeK l q)
def zEh(l:List Int)(q:Scl):Scl:=⟨q.keys,zHI l q q.steps.length⟩
def zBg(l:List Int)(ps:List Two)(m:Int):Int:=ps.foldl (fun m q=>min m (pL l q.b - pL l q.a)) m
def zBf(l:List Int)(ps:List Two)(m:Int):Int:=ps.foldl (fun m q=>max m (pL l q.b - pL l q.a)) m
def zCg(t:Ts)(l:List Int):Ts:=⟨t.heard,t.scales.map (zEh l),t.pairs,zBg l t.pairs t.lo,zBf l t.pairs t.hi⟩
theorem easeL_succ(l:List Int)(q:Scl)(n:Nat):zHI l q (n+1)=zHI l q n++[easeK l q n]:=by unfold zHI;rw[List.range_succ,List.map_append];rfl
def accQ(l:List Scl):U:=match l with
 |[]=>.lst .full 0 []
 |x::l=>.lst .own 2 (yn (x::l))
theorem accQ_snoc(x:Scl)(l:List Scl):accQ (l++[x])=.lst .own 2 (yn l++[x.u]):=by
 cases l with
 |nil=>rfl
 |cons y l=>show U.lst .own 2 (yn (y::(l++[x])))=_;simp
def accW(l:List Two):U:=match l with
 |[]=>.lst .full 0 []
 |x::l=>.lst .own 2 (zV (x::l))
theorem accW_snoc(x:Two)(l:List Two):accW (l++[x])=.lst .own 2 (zV l++[x.u]):=by
 cases l with
 |nil=>rfl
 |cons y l=>show U.lst .own 2 (zV (y::(l++[x])))=_;simp
theorem uw_accQ(l:List Scl):UW (.u (accQ l)) (.u (.lst .ro 2 (yn l))):=by
 cases l with
 |nil=>exact .nil .full .ro 2
 |cons x l=>exact .ro _ _ _
theorem set_same{l:List SB}{i:Nat}{x:SB}(h:l[i]? =some x):l.set i x=l:=by
 obtain⟨h1,h2⟩:=List.getElem?_eq_some_iff.1 h
 rw[←h2]
 exact List.set_getElem_self h1
theorem set_mid2(L e f:List SB)(x z:SB):(((L++[x])++e)++f).set L.length z=(L++[z])++(e++f):=by
 rw[List.append_assoc,List.append_assoc,List.append_assoc,List.set_append_right _ _ (Nat.le_refl _),Nat.sub_self]
 rfl
set_option maxHeartbeats 16000000 in
theorem ret37(hi:Off is)(hok:TOk t)(hl:l.length=t.heard.length)(hb:∀v,Key t v→1≤pL l v∧pL l v≤4000):RetP Try.prog is orc 37 [t.u,.lst .ro 1 (zO l)] (.tup [(zCg t l).u,.bool (ym (zCg t l))]):=by
 refine yE body37 pure37 (hi 37 (by decide)) rfl rfl (yZ (zAg t 4) (wT 6 .ro (fun h=>by cases h) 1 l)) (.inr ⟨_,rfl,yZ (zAg _ 3) (.bool _ _)⟩) ?_
 have hns:=hok.sh.ns
 refine kQ (yA rfl rfl (zT rfl ze28 ?_))
 refine zC rfl (zA ?_)
 refine zK [(1,.lst .ro 1 (zO l)),(2,U.box 0 0),(4,U.box 1 0)] ([SB.box t.cs,SB.box [.lst .full 0 [],.lst .full 0 [],.lst .full 0 [],.int .i64 0,.int .i64 0]]) (.cons rfl (.cons rfl (.cons rfl (.nil rfl)))) rfl fun fr=>?_
 refine kQ (zH rfl rfl rfl sh28 rfl (zT rfl ze28 ?_))
 refine zJ rfl rfl sh28 rfl rfl rfl rfl rfl ?_
 refine zA ?_
 refine zK [(1,.lst .ro 1 (zO l)),(2,U.box 0 0),(4,U.box 1 0),(6,U.box 2 0)] ([SB.box t.cs,SB.box [.lst .full 0 [],.lst .full 0 [],.lst .full 0 [],.int .i64 0,.int .i64 0],SB.box t.cs]) (.c4 rfl rfl rfl rfl (.nil rfl)) rfl fun fr=>?_
 refine kQ (zE rfl rfl yl (yU rfl rfl sh23 rfl rfl (zA ?_)))
 refine zK [(1,.lst .ro 1 (zO l)),(2,U.box 0 0),(4,U.box 1 0),(6,U.box 2 0)] ([SB.box t.cs,SB.box [.lst .full 0 [],.lst .full 0 [],.lst .full 0 [],.int .i64 0,.int .i64 0],SB.box [.lst .ro 2 (zV t.heard),.lst .full 0 [],.lst .ro 2 (zV t.pairs),.int .i64 t.lo,.int .i64 t.hi]]) (.c4 rfl rfl rfl rfl (.nil rfl)) rfl fun fr=>?_
 refine k_seq (kQ (zC rfl (zA (zN ?_))))
 obtain⟨V0,hV0⟩:∃V0:List U,V0=[.lst .full 0 [],.lst .full 0 [],.lst .full 0 [],.int .i64 0,.int .i64 0]:=⟨_,rfl⟩
 refine yg (fun kk s2=>∃(n:Nat) (e:List SB),kk+n=t.scales.length∧s2.st=[.box t.cs,.box V0,.box [.lst .ro 2 (zV t.heard),accQ ((t.scales.take n).map (zEh l)),.lst .ro 2 (zV t.pairs),.int .i64 t.lo,.int .i64 t.hi]]++e∧Holds s2 [(1,.lst .ro 1 (zO l)),(2,.box 0 0),(4,.box 1 0),(6,.box 2 0),(7,.int .i64 n)]) (fun kk s2 hI=>?_) t.scales.length _ ⟨0,[],rfl,by rw[hV0];rfl,.c4 rfl rfl rfl rfl (.cons rfl (.nil rfl))⟩
 obtain⟨n,e,hk,hst,hs⟩:=hI
 generalize hA:accQ ((t.scales.take n).map (zEh l))=A at hst
 generalize hY:[.box t.cs,.box V0,SB.box [.lst .ro 2 (zV t.heard),A,.lst .ro 2 (zV t.pairs),.int .i64 t.lo,.int .i64 t.hi]]++e=Y at hst
 have y0:Y[0]? =some (.box t.cs):=by rw[←hY];rfl
 have y1:Y[1]? =some (.box V0):=by rw[←hY];rfl
 have y2:Y[2]? =some (.box [.lst .ro 2 (zV t.heard),A,.lst .ro 2 (zV t.pairs),.int .i64 t.lo,.int .i64 t.hi]):=by rw[←hY];rfl
 refine zK _ _ hs hst fun fr=>?_
 by_cases hn:n<t.scales.length
 ·obtain⟨q,hq⟩:∃q,t.scales[n]? =some q:=⟨t.scales[n],List.getElem?_eq_getElem hn⟩
  obtain⟨h1,h2⟩:=hok.sh.sc q (List.mem_of_getElem? hq)
  refine k_seq (kQ (zB rfl (zE rfl rfl yl (zF rfl rfl y0 sh23 rfl ?_))))
  refine zw rfl ty23 rfl (List.length_map _) ?_
  refine zf rfl rfl rfl (zA (k_cT rfl (decide_eq_true (by omega)) (zQ (k_seq (zN (kQ (zBA (es:=[]) rfl ty29 ze3 cl3 rfl rfl rfl rfl rfl rfl rfl rfl ?_)))))))
  refine zE rfl rfl yl (zF rfl rfl y0 sh23 rfl ?_)
  refine zB rfl (zq (u:=(q).u) rfl ty23 rfl rfl (Int.natCast_nonneg _) (by simp[hq]) cl61 ?_)
  refine wk rfl rfl wP ?_
  refine zW rfl rfl sh29 rfl ?_
  refine wu rfl zCA rfl rfl (by simp) (by simp) (by simp[zn,zi,oneU]) (by simp;omega) ?_
  refine yK rfl ze61 pl61 rfl rfl ?_
  refine zT rfl ze61 ?_
  refine zJ rfl (zX _ _) sh61 rfl rfl rfl rfl rfl ?_
  refine zA ?_
  refine zK [(1,.lst .ro 1 (zO l)),(2,U.box 0 0),(4,U.box 1 0),(6,U.box 2 0),(7,.int .i64 ↑n),(8,U.box (List.length Y) 0)] (Y++[SB.box [.lst .ro 1 (zO q.keys),.lst .full 0 []]]) (.c4 rfl rfl rfl rfl (.cons rfl (.cons rfl (.nil rfl)))) (yC _ _ _) fun fr=>?_
  refine k_seq (kQ (zC rfl (zA (zN ?_))))
  obtain⟨k8,hk8⟩:∃k8,k8=Y.length:=⟨_,rfl⟩
  rw[←hk8]
  refine yg (fun k3 s3=>∃(m:Nat) (e2:List SB),k3+m=q.steps.length∧s3.st=(Y++[.box [.lst .ro 1 (zO q.keys),accW (zHI l q m)]])++e2∧Holds s3 [(1,.lst .ro 1 (zO l)),(2,.box 0 0),(4,.box 1 0),(6,.box 2 0),(7,.int .i64 n),(8,.box k8 0),(9,.int .i64 m)]) (fun k3 s3 hI3=>?_) q.steps.length _ ⟨0,[],rfl,(List.append_nil _).symm,.c4 rfl rfl rfl rfl (.cons rfl (.cons rfl (.cons rfl (.nil rfl))))⟩
  obtain⟨m,e2,hk3,hst3,hs3⟩:=hI3
  obtain⟨W,hW⟩:∃W,W=zHI l q m:=⟨_,rfl⟩
  have hWl:W.length=m:=by rw[hW];unfold zHI;simp
  rw[←hW]at hst3
  by_cases hm:m<q.steps.length
  ·obtain⟨x,hx⟩:∃x,q.steps[m]? =some x:=⟨q.steps[m],List.getElem?_eq_getElem hm⟩
   obtain⟨a,ha⟩:∃a,q.keys[m]? =some a:=⟨q.keys[m]'(by omega),List.getElem?_eq_getElem (by omega)⟩
   obtain⟨b,hbk⟩:∃b,q.keys[m+1]? =some b:=⟨q.keys[m+1]'(by omega),List.getElem?_eq_getElem (by omega)⟩
   have ra:=(hok.sk q (List.mem_of_getElem? hq)).2 a (List.mem_of_getElem? ha)
   have rb:=(hok.sk q (List.mem_of_getElem? hq)).2 b (List.mem_of_getElem? hbk)
   have pa:=hb a ra
   have pb:=hb b rb
   have la:l[a.toNat]? =some (pL l a):=by unfold pL;rw[List.getElem?_eq_getElem (by omega)];rfl
   have lb:l[b.toNat]? =some (pL l b):=by unfold pL;rw[List.getElem?_eq_getElem (by omega)];rfl
   have hsu:zHI l q (m+1)=W++[⟨min x.a ((1000*pL l b) / pL l a),max x.b (-((-(1000*pL l b)) / pL l a))⟩]:=by
    rw[easeL_succ,←hW]
    unfold easeK
    rw[hx,ha,hbk];rfl
   generalize pL l a=pa0 at pa la hsu
   generalize pL l b=pb0 at pb lb hsu
   have q78:=ret78 (orc:=orc) hi (1000*pb0) pa0 (by omega) (by omega)
   have q79:=ret79 (orc:=orc) hi (1000*pb0) pa0 (by omega) (by omega)
   generalize (1000*pb0) / pa0=dn at q78 hsu
   generalize -((-(1000*pb0)) / pa0)=up at q79 hsu
   have q41:=ret41 (orc:=orc) hi (min x.a dn) (max x.b up)
   cases W with
   |nil=>
    generalize hZ:(Y++[SB.box [.lst .ro 1 (zO q.keys),accW []]])++e2=Z at hst3
    have z0:Z[0]? =some (.box t.cs):=by rw[←hZ];exact zg (zg y0)
    have z8:Z[k8]? =some (.box [.lst .ro 1 (zO q.keys),.lst .full 0 []]):=by rw[←hZ,hk8];exact zg (zX _ _)
    refine zK _ _ hs3 hst3 fun fr3=>?_
    refine k_seq (kQ (zB rfl (zE rfl rfl yl (zF rfl rfl z0 sh23 rfl ?_))))
    refine zB rfl (zq (u:=(q).u) rfl ty23 rfl rfl (Int.natCast_nonneg _) (by simp[hq]) cl61 ?_)
    refine wk rfl rfl wZ ?_
    refine zW rfl rfl sh22 rfl ?_
    refine zw rfl ty22 rfl (List.length_map _) ?_
    refine zf rfl rfl rfl (zA (k_cT rfl (decide_eq_true (by omega)) (zQ (k_seq (zN (k_seq (yr [.plain,.plain,.read true,.plain,.plain,.read true,.plain,.read true,.plain,.plain,.read true,.plain,.plain,.plain,.read true,.plain,.read true,.plain,.plain,.plain] (by kernel_rfl) (by kernel_rfl) (by kernel_rfl) ?_)))))))
    refine zD (zB rfl (zA rfl)) (zD (zE rfl rfl wP (zA rfl)) ?_)
    refine zS rfl (zF rfl rfl z8 sh29 rfl (zA rfl)) ?_
    refine zD (zB rfl (zA rfl)) (zD (zq (u:=.int .i64 (a)) rfl ty29 rfl rfl (Int.natCast_nonneg _) (by simp[ha]) cl3 (zA rfl)) ?_)
    refine zS rfl (zW rfl rfl sh3 rfl (zA rfl)) ?_
    refine zD (zq (u:=.int .i64 pa0) rfl ty29 rfl rfl (by omega) (by rw[List.getElem?_map,la];rfl) cl3 (zA rfl)) ?_
    refine zS rfl (zW rfl rfl sh3 rfl (zA rfl)) ?_
    refine zD (zB rfl (zA rfl)) ?_
    refine wI [(1,.lst .ro 1 (zO l)),(2,U.box 0 0),(4,U.box 1 0),(6,U.box 2 0),(7,.int .i64 ↑n),(8,U.box k8 0),(9,.int .i64 ↑m),(51,.int .i64 pa0),(52,.lst .ro 1 (zO l))] [] (Z) (.c4 rfl rfl rfl rfl (.c4 rfl rfl rfl rfl (.cons rfl (.nil rfl)))) rfl rfl fun fr=>?_
    refine zD (zE rfl rfl wP (zA rfl)) ?_
    refine zS rfl (zF rfl rfl z8 sh29 rfl (zA rfl)) ?_
    refine zD (zB rfl (zA rfl)) ?_
    refine zD (yT rfl rfl rfl (by unfold I64;omega) (zA rfl)) ?_
    refine zD (zq (u:=.int .i64 (b)) rfl ty29 rfl rfl (Int.natCast_nonneg _) (by simp[hbk]) cl3 (zA rfl)) ?_
    refine zS rfl (zW rfl rfl sh3 rfl (zA rfl)) ?_
    refine zD (zq (u:=.int .i64 pb0) rfl ty29 rfl rfl (by omega) (by rw[List.getElem?_map,lb];rfl) cl3 (zA rfl)) ?_
    refine zS rfl (zW rfl rfl sh3 rfl (zA rfl)) ?_
    refine zD (o_mul rfl rfl rfl (by unfold I64;omega) (zA rfl)) ?_
    refine wI [(1,.lst .ro 1 (zO l)),(2,U.box 0 0),(4,U.box 1 0),(6,U.box 2 0),(7,.int .i64 ↑n),(8,U.box k8 0),(9,.int .i64 ↑m),(51,.int .i64 pa0),(61,.int .i64 ((1000:Int)*pb0))] [] (Z) (.c4 rfl rfl rfl rfl (.c4 rfl rfl rfl rfl (.cons rfl (.nil rfl)))) rfl rfl fun fr=>?_
    refine zD (zC rfl (zA rfl)) ?_
    refine zD (zC rfl (zA rfl)) ?_
    refine wc ?_
    refine zK [(1,.lst .ro 1 (zO l)),(2,U.box 0 0),(4,U.box 1 0),(6,U.box 2 0),(7,.int .i64 ↑n),(8,U.box k8 0),(9,.int .i64 ↑m),(10,.int .i64 pa0),(11,.int .i64 ((1000:Int)*pb0))] (Z) (.c4 rfl rfl rfl rfl (.c4 rfl rfl rfl rfl (.cons rfl (.nil rfl)))) rfl fun fr=>?_
    refine kQ (zE rfl rfl yl (zF rfl rfl z0 sh23 rfl ?_))
    refine zB rfl (zq (u:=(q).u) rfl ty23 rfl rfl (Int.natCast_nonneg _) (by simp[hq]) cl61 ?_)
    refine wk rfl rfl wZ ?_
    refine zW rfl rfl sh22 rfl ?_
    refine zB rfl (zq (u:=(x).u) rfl ty22 rfl rfl (Int.natCast_nonneg _) (by simp[hx]) cl26 ?_)
    refine zo rfl rfl sh26 rfl ?_
    refine zT rfl ze26 ?_
    refine zJ rfl (zX _ _) sh26 rfl rfl rfl rfl rfl ?_
    refine zA ?_
    refine zK [(1,.lst .ro 1 (zO l)),(2,U.box 0 0),(4,U.box 1 0),(6,U.box 2 0),(7,.int .i64 ↑n),(8,U.box k8 0),(9,.int .i64 ↑m),(10,.int .i64 pa0),(11,.int .i64 ((1000:Int)*pb0)),(12,U.box (List.length Z) 0)] (Z++[SB.box [.int .i64 x.a,.int .i64 x.b]]) (.c4 rfl rfl rfl rfl (.c4 rfl rfl rfl rfl (.cons rfl (.cons rfl (.nil rfl))))) (yC _ _ _) fun fr=>?_
    refine yr [.plain,.read true,.plain,.read true,.plain,.plain,.read false,.read true,.plain,.read true,.plain,.plain,.read false,.read true,.read false,.lay,.plain,.plain,.plain] (by kernel_rfl) (by kernel_rfl) (by kernel_rfl) ?_
    refine zD (zE rfl rfl wZ (zA rfl)) ?_
    refine zS rfl (zF rfl rfl (zg z8) sh22 rfl (zA rfl)) ?_
    refine zD (zE rfl rfl zk (zA rfl)) ?_
    refine zS rfl (zF rfl rfl (zX _ _) sh3 rfl (zA rfl)) ?_
    refine zD (zB rfl (zA rfl)) (zD (zB rfl (zA rfl)) (wF rfl (q78) (.int _ _) (.lrefl _) ?_))
    refine zS rfl (o_min rfl rfl rfl (zA rfl)) ?_
    refine zD (zE rfl rfl zp (zA rfl)) ?_
    refine wI [(1,.lst .ro 1 (zO l)),(2,U.box 0 0),(4,U.box 1 0),(6,U.box 2 0),(7,.int .i64 ↑n),(8,U.box k8 0),(9,.int .i64 ↑m),(10,.int .i64 pa0),(11,.int .i64 ((1000:Int)*pb0)),(72,.lst .full 0 []),(78,.int .i64 (Min.min x.a dn)),(79,U.box (List.length Z) 1)] [] (Z++[SB.box [.int .i64 x.a,.int .i64 x.b]]) (.c4 rfl rfl rfl rfl (.c4 rfl rfl rfl rfl (.c4 rfl rfl rfl rfl (.nil rfl)))) rfl rfl fun fr=>?_
    refine zS rfl (zF rfl rfl (zX _ _) sh3 rfl (zA rfl)) ?_
    refine zD (zB rfl (zA rfl)) (zD (zB rfl (zA rfl)) (wF rfl (q79) (.int _ _) (.lrefl _) ?_))
    refine zS rfl (o_max rfl rfl rfl (zA rfl)) ?_
    refine wF rfl (q41) (zBG _ _) (.lrefl _) ?_
    refine d_lay (es:=[yz (Min.min (Two.a x) dn) (Max.max (Two.b x) up)]) rfl ty22 ze26 cl26 rfl rfl rfl rfl rfl rfl rfl rfl ?_
    refine zD (wu rfl ap22_22 rfl rfl (by simp) (by simp) (by simp[zn,zi,oneU]) (by simp) (zA rfl)) ?_
    refine zD (zE rfl rfl wZ (zA rfl)) ?_
    refine wI [(1,.lst .ro 1 (zO l)),(2,U.box 0 0),(4,U.box 1 0),(6,U.box 2 0),(7,.int .i64 ↑n),(8,U.box k8 0),(9,.int .i64 ↑m),(87,U.lst Kd.own 2 [yz (Min.min x.a dn) (Max.max x.b up)]),(88,U.box k8 1)] [] (Z++[SB.box [.int .i64 x.a,.int .i64 x.b]]) (.c4 rfl rfl rfl rfl (.c4 rfl rfl rfl rfl (.cons rfl (.nil rfl)))) rfl rfl fun fr=>?_
    refine zD (yU rfl (zg z8) sh22 rfl rfl (zA rfl)) ?_
    refine wc ?_
    refine zK [(1,.lst .ro 1 (zO l)),(2,U.box 0 0),(4,U.box 1 0),(6,U.box 2 0),(7,.int .i64 ↑n),(8,U.box k8 0),(9,.int .i64 ↑m)] (List.set (Z++[SB.box [.int .i64 x.a,.int .i64 x.b]]) k8 (SB.box [.lst .ro 1 (zO q.keys),U.lst Kd.own 2 [yz (Min.min x.a dn) (Max.max x.b up)]])) (.c4 rfl rfl rfl rfl (.cons rfl (.cons rfl (.cons rfl (.nil rfl))))) rfl fun fr=>?_
    refine k_region (zB rfl ?_)
    refine yT rfl rfl rfl (by unfold I64;omega) (zC rfl (zA ?_))
    exact⟨k3 - 1,by omega,m+1,_,by omega,(by show(Z++[_]).set k8 _=_;rw[←hZ,hk8,set_mid2,hsu];rfl),.c4 rfl rfl rfl rfl (.cons rfl (.cons rfl (.cons rfl (.nil rfl))))⟩
   |cons w W=>
    generalize hZ:(Y++[SB.box [.lst .ro 1 (zO q.keys),accW (w::W)]])++e2=Z at hst3
    have z0:Z[0]? =some (.box t.cs):=by rw[←hZ];exact zg (zg y0)
    have z8:Z[k8]? =some (.box [.lst .ro 1 (zO q.keys),.lst .own 2 (zV (w::W))]):=by rw[←hZ,hk8];exact zg (zX _ _)
    refine zK _ _ hs3 hst3 fun fr3=>?_
    refine k_seq (kQ (zB rfl (zE rfl rfl yl (zF rfl rfl z0 sh23 rfl ?_))))
    refine zB rfl (zq (u:=(q).u) rfl ty23 rfl rfl (Int.natCast_nonneg _) (by simp[hq]) cl61 ?_)
    refine wk rfl rfl wZ ?_
    refine zW rfl rfl sh22 rfl ?_
    refine zw rfl ty22 rfl (List.length_map _) ?_
    refine zf rfl rfl rfl (zA (k_cT rfl (decide_eq_true (by omega)) (zQ (k_seq (zN (k_seq (yr [.plain,.plain,.read true,.plain,.plain,.read true,.plain,.read true,.plain,.plain,.read true,.plain,.plain,.plain,.read true,.plain,.read true,.plain,.plain,.plain] (by kernel_rfl) (by kernel_rfl) (by kernel_rfl) ?_)))))))
    refine zD (zB rfl (zA rfl)) (zD (zE rfl rfl wP (zA rfl)) ?_)
    refine zS rfl (zF rfl rfl z8 sh29 rfl (zA rfl)) ?_
    refine zD (zB rfl (zA rfl)) (zD (zq (u:=.int .i64 (a)) rfl ty29 rfl rfl (Int.natCast_nonneg _) (by simp[ha]) cl3 (zA rfl)) ?_)
    refine zS rfl (zW rfl rfl sh3 rfl (zA rfl)) ?_
    refine zD (zq (u:=.int .i64 pa0) rfl ty29 rfl rfl (by omega) (by rw[List.getElem?_map,la];rfl) cl3 (zA rfl)) ?_
    refine zS rfl (zW rfl rfl sh3 rfl (zA rfl)) ?_
    refine zD (zB rfl (zA rfl)) ?_
    refine wI [(1,.lst .ro 1 (zO l)),(2,U.box 0 0),(4,U.box 1 0),(6,U.box 2 0),(7,.int .i64 ↑n),(8,U.box k8 0),(9,.int .i64 ↑m),(51,.int .i64 pa0),(52,.lst .ro 1 (zO l))] [] (Z) (.c4 rfl rfl rfl rfl (.c4 rfl rfl rfl rfl (.cons rfl (.nil rfl)))) rfl rfl fun fr=>?_
    refine zD (zE rfl rfl wP (zA rfl)) ?_
    refine zS rfl (zF rfl rfl z8 sh29 rfl (zA rfl)) ?_
    refine zD (zB rfl (zA rfl)) ?_
    refine zD (yT rfl rfl rfl (by unfold I64;omega) (zA rfl)) ?_
    refine zD (zq (u:=.int .i64 (b)) rfl ty29 rfl rfl (Int.natCast_nonneg _) (by simp[hbk]) cl3 (zA rfl)) ?_
    refine zS rfl (zW rfl rfl sh3 rfl (zA rfl)) ?_
    refine zD (zq (u:=.int .i64 pb0) rfl ty29 rfl rfl (by omega) (by rw[List.getElem?_map,lb];rfl) cl3 (zA rfl)) ?_
    refine zS rfl (zW rfl rfl sh3 rfl (zA rfl)) ?_
    refine zD (o_mul rfl rfl rfl (by unfold I64;omega) (zA rfl)) ?_
    refine wI [(1,.lst .ro 1 (zO l)),(2,U.box 0 0),(4,U.box 1 0),(6,U.box 2 0),(7,.int .i64 ↑n),(8,U.box k8 0),(9,.int .i64 ↑m),(51,.int .i64 pa0),(61,.int .i64 ((1000:Int)*pb0))] [] (Z) (.c4 rfl rfl rfl rfl (.c4 rfl rfl rfl rfl (.cons rfl (.nil rfl)))) rfl rfl fun fr=>?_
    refine zD (zC rfl (zA rfl)) ?_
    refine zD (zC rfl (zA rfl)) ?_
    refine wc ?_
    refine zK [(1,.lst .ro 1 (zO l)),(2,U.box 0 0),(4,U.box 1 0),(6,U.box 2 0),(7,.int .i64 ↑n),(8,U.box k8 0),(9,.int .i64 ↑m),(10,.int .i64 pa0),(11,.int .i64 ((1000:Int)*pb0))] (Z) (.c4 rfl rfl rfl rfl (.c4 rfl rfl rfl rfl (.cons rfl (.nil rfl)))) rfl fun fr=>?_
    refine kQ (zE rfl rfl yl (zF rfl rfl z0 sh23 rfl ?_))
    refine zB rfl (zq (u:=(q).u) rfl ty23 rfl rfl (Int.natCast_nonneg _) (by simp[hq]) cl61 ?_)
    refine wk rfl rfl wZ ?_
    refine zW rfl rfl sh22 rfl ?_
    refine zB rfl (zq (u:=(x).u) rfl ty22 rfl rfl (Int.natCast_nonneg _) (by simp[hx]) cl26 ?_)
    refine zo rfl rfl sh26 rfl ?_
    refine zT rfl ze26 ?_
    refine zJ rfl (zX _ _) sh26 rfl rfl rfl rfl rfl ?_
    refine zA ?_
    refine zK [(1,.lst .ro 1 (zO l)),(2,U.box 0 0),(4,U.box 1 0),(6,U.box 2 0),(7,.int .i64 ↑n),(8,U.box k8 0),(9,.int .i64 ↑m),(10,.int .i64 pa0),(11,.int .i64 ((1000:Int)*pb0)),(12,U.box (List.length Z) 0)] (Z++[SB.box [.int .i64 x.a,.int .i64 x.b]]) (.c4 rfl rfl rfl rfl (.c4 rfl rfl rfl rfl (.cons rfl (.cons rfl (.nil rfl))))) (yC _ _ _) fun fr=>?_
    refine yr [.plain,.read true,.plain,.read true,.plain,.plain,.read false,.read true,.plain,.read true,.plain,.plain,.read false,.read true,.read false,.lay,.plain,.plain,.plain] (by kernel_rfl) (by kernel_rfl) (by kernel_rfl) ?_
    refine zD (zE rfl rfl wZ (zA rfl)) ?_
    refine zS rfl (zF rfl rfl (zg z8) sh22 rfl (zA rfl)) ?_
    refine zD (zE rfl rfl zk (zA rfl)) ?_
    refine zS rfl (zF rfl rfl (zX _ _) sh3 rfl (zA rfl)) ?_
    refine zD (zB rfl (zA rfl)) (zD (zB rfl (zA rfl)) (wF rfl (q78) (.int _ _) (.lrefl _) ?_))
    refine zS rfl (o_min rfl rfl rfl (zA rfl)) ?_
    refine zD (zE rfl rfl zp (zA rfl)) ?_
    refine wI [(1,.lst .ro 1 (zO l)),(2,U.box 0 0),(4,U.box 1 0),(6,U.box 2 0),(7,.int .i64 ↑n),(8,U.box k8 0),(9,.int .i64 ↑m),(10,.int .i64 pa0),(11,.int .i64 ((1000:Int)*pb0)),(72,.lst .ro 2 (zV (w::W))),(78,.int .i64 (Min.min x.a dn)),(79,U.box (List.length Z) 1)] [(72,.cell k8 1)] (Z++[SB.box [.int .i64 x.a,.int .i64 x.b]]) (.c4 rfl rfl rfl rfl (.c4 rfl rfl rfl rfl (.c4 rfl rfl rfl rfl (.nil rfl)))) rfl rfl fun fr=>?_
    refine zS rfl (zF rfl rfl (zX _ _) sh3 rfl (zA rfl)) ?_
    refine zD (zB rfl (zA rfl)) (zD (zB rfl (zA rfl)) (wF rfl (q79) (.int _ _) (.lrefl _) ?_))
    refine zS rfl (o_max rfl rfl rfl (zA rfl)) ?_
    refine wF rfl (q41) (zBG _ _) (.lrefl _) ?_
    refine d_lay (es:=[yz (Min.min (Two.a x) dn) (Max.max (Two.b x) up)]) rfl ty22 ze26 cl26 rfl rfl rfl rfl rfl rfl rfl rfl ?_
    refine zD (zGk (k8) 1 rfl ap22_22 (isCp_head rfl) (zg z8) rfl rfl (by simp) (by simp) (by simp[zn,zi,oneU]) (by simp at*;omega) (zA rfl)) ?_
    refine zD (zE rfl rfl wZ (zA rfl)) ?_
    refine wI [(1,.lst .ro 1 (zO l)),(2,U.box 0 0),(4,U.box 1 0),(6,U.box 2 0),(7,.int .i64 ↑n),(8,U.box k8 0),(9,.int .i64 ↑m),(87,U.lst Kd.own 2 (Two.u w::List.append (List.map Two.u W) [yz (Min.min x.a dn) (Max.max x.b up)])),(88,U.box k8 1)] [(72,.cell k8 1)] (List.set (Z++[SB.box [.int .i64 x.a,.int .i64 x.b]]) k8 (SB.box [.lst .ro 1 (zO q.keys),.lst .ro 2 (zV (w::W))])) (.c4 rfl rfl rfl rfl (.c4 rfl rfl rfl rfl (.cons rfl (.nil rfl)))) rfl rfl fun fr=>?_
    refine zD (yU rfl (at_put (zg z8)) sh22 rfl rfl (zA rfl)) ?_
    refine wc ?_
    refine zK [(1,.lst .ro 1 (zO l)),(2,U.box 0 0),(4,U.box 1 0),(6,U.box 2 0),(7,.int .i64 ↑n),(8,U.box k8 0),(9,.int .i64 ↑m)] (List.set (List.set (Z++[SB.box [.int .i64 x.a,.int .i64 x.b]]) k8 (SB.box [.lst .ro 1 (zO q.keys),.lst .ro 2 (zV (w::W))])) k8 (SB.box [.lst .ro 1 (zO q.keys),U.lst Kd.own 2 (Two.u w::List.append (List.map Two.u W) [yz (Min.min x.a dn) (Max.max x.b up)])])) (.c4 rfl rfl rfl rfl (.cons rfl (.cons rfl (.cons rfl (.nil rfl))))) rfl fun fr=>?_
    refine k_region (zB rfl ?_)
    refine yT rfl rfl rfl (by unfold I64;omega) (zC rfl (zA ?_))
    exact⟨k3 - 1,by omega,m+1,_,by omega,(by show((Z++[_]).set k8 _).set k8 _=_;rw[List.set_set,←hZ,hk8,set_mid2,hsu,accW_snoc];rfl),.c4 rfl rfl rfl rfl (.cons rfl (.cons rfl (.cons rfl (.nil rfl))))⟩
  ·have hmN:m=q.steps.length:=by omega
   subst hmN
   have hsq:(zEh l q).steps=W:=hW.symm
   have htk:(t.scales.take (n+1)).map (zEh l)=(t.scales.take n).map (zEh l)++[⟨q.keys,W⟩]:=by
    rw[List.take_add_one,hq,List.map_append,hW];rfl
   obtain⟨Q,hQ⟩:∃Q,Q=(t.scales.take n).map (zEh l):=⟨_,rfl⟩
   have hQl:Q.length=n:=by rw[hQ,List.length_map,List.length_take];omega
   rw[←hQ]at htk hA
   obtain⟨Z,hZ⟩:∃Z,Z=(Y++[SB.box [.lst .ro 1 (zO q.keys),accW W]])++e2:=⟨_,rfl⟩
   rw[←hZ]at hst3
   have z0:Z[0]? =some (.box t.cs):=by rw[hZ];exact zg (zg y0)
   have z2:Z[2]? =some (.box [.lst .ro 2 (zV t.heard),A,.lst .ro 2 (zV t.pairs),.int .i64 t.lo,.int .i64 t.hi]):=by rw[hZ];exact zg (zg y2)
   have z8:Z[k8]? =some (.box [.lst .ro 1 (zO q.keys),accW W]):=by rw[hZ,hk8];exact zg (zX _ _)
   refine zK _ _ hs3 hst3 fun fr3=>?_
   cases W with
   |nil=>
    cases Q with
    |nil=>
     subst hA
     refine k_seq (kQ (zB rfl (zE rfl rfl yl (zF rfl rfl z0 sh23 rfl ?_))))
     refine zB rfl (zq (u:=(q).u) rfl ty23 rfl rfl (Int.natCast_nonneg _) (by simp[hq]) cl61 ?_)
     refine wk rfl rfl wZ ?_
     refine zW rfl rfl sh22 rfl ?_
     refine zw rfl ty22 rfl (List.length_map _) ?_
     refine zf rfl rfl rfl (zA (k_cF rfl (decide_eq_false (by omega)) (yO (k_region (zE rfl rfl yl (zF rfl rfl z2 sh23 rfl ?_))))))
     refine zH rfl rfl z8 sh61 rfl ?_
     refine o_weak 91 rfl (fun _=>rfl) (.agg _ _ (.lcons _ _ _ _ (.refl _) (.lcons _ _ _ _ (.nil .full .ro 2) (.lrefl _)))) ?_
     refine zBA (es:=[U.agg [U.lst Kd.ro 1 (zO (Scl.keys q)),U.lst Kd.ro 2 []]]) rfl ty23 ze61 cl61 rfl rfl rfl rfl rfl rfl rfl rfl ?_
     refine wu rfl ap23_23 rfl rfl (by simp) (by simp) (by simp[zn,zi,oneU]) (by simp) ?_
     refine zE rfl rfl yl (yU rfl z2 sh23 rfl rfl ?_)
     refine zA ?_
     refine zK [(1,.lst .ro 1 (zO l)),(2,U.box 0 0),(4,U.box 1 0),(6,U.box 2 0),(7,.int .i64 ↑n)] (List.set Z 2 (SB.box [.lst .ro 2 (zV t.heard),U.lst Kd.own 2 [U.agg [.lst .ro 1 (zO q.keys),.lst .ro 2 []]],.lst .ro 2 (zV t.pairs),.int .i64 t.lo,.int .i64 t.hi])) (.c4 rfl rfl rfl rfl (.cons rfl (.nil rfl))) rfl fun fr=>?_
     refine k_region (zB rfl ?_)
     refine yT rfl rfl rfl (by unfold I64;omega) (zC rfl (zA ?_))
     exact⟨kk - 1,by omega,n+1,_,by omega,(by show Z.set 2 _=_;rw[hZ,←hY,htk];rfl),.c4 rfl rfl rfl rfl (.cons rfl (.nil rfl))⟩
    |cons y Q=>
     subst hA
     refine k_seq (kQ (zB rfl (zE rfl rfl yl (zF rfl rfl z0 sh23 rfl ?_))))
     refine zB rfl (zq (u:=(q).u) rfl ty23 rfl rfl (Int.natCast_nonneg _) (by simp[hq]) cl61 ?_)
     refine wk rfl rfl wZ ?_
     refine zW rfl rfl sh22 rfl ?_
     refine zw rfl ty22 rfl (List.length_map _) ?_
     refine zf rfl rfl rfl (zA (k_cF rfl (decide_eq_false (by omega)) (yO (k_region (zE rfl rfl yl (zF rfl rfl z2 sh23 rfl ?_))))))
     refine zH rfl rfl z8 sh61 rfl ?_
     refine o_weak 91 rfl (fun _=>rfl) (.agg _ _ (.lcons _ _ _ _ (.refl _) (.lcons _ _ _ _ (.nil .full .ro 2) (.lrefl _)))) ?_
     refine zBA (es:=[U.agg [U.lst Kd.ro 1 (zO (Scl.keys q)),U.lst Kd.ro 2 []]]) rfl ty23 ze61 cl61 rfl rfl rfl rfl rfl rfl rfl rfl ?_
     refine zGk (2) 1 rfl ap23_23 rfl z2 rfl rfl (by simp) (by simp) (by simp[zn,zi,oneU]) (by simp at hQl ⊢;omega) ?_
     refine zE rfl rfl yl (yU rfl (at_put z2) sh23 rfl rfl ?_)
     refine zA ?_
     refine zK [(1,.lst .ro 1 (zO l)),(2,U.box 0 0),(4,U.box 1 0),(6,U.box 2 0),(7,.int .i64 ↑n)] (List.set (List.set Z 2 (SB.box [.lst .ro 2 (zV t.heard),.lst .ro 2 (yn (y::Q)),.lst .ro 2 (zV t.pairs),.int .i64 t.lo,.int .i64 t.hi])) 2 (SB.box [.lst .ro 2 (zV t.heard),U.lst Kd.own 2 (Scl.u y::List.append (List.map Scl.u Q) [U.agg [.lst .ro 1 (zO q.keys),.lst .ro 2 []]]),.lst .ro 2 (zV t.pairs),.int .i64 t.lo,.int .i64 t.hi])) (.c4 rfl rfl rfl rfl (.cons rfl (.nil rfl))) rfl fun fr=>?_
     refine k_region (zB rfl ?_)
     refine yT rfl rfl rfl (by unfold I64;omega) (zC rfl (zA ?_))
     exact⟨kk - 1,by omega,n+1,_,by omega,(by show(Z.set 2 _).set 2 _=_;rw[hZ,←hY,htk,accQ_snoc];rfl),.c4 rfl rfl rfl rfl (.cons rfl (.nil rfl))⟩
   |cons w W=>
    cases Q with
    |nil=>
     subst hA
     refine k_seq (kQ (zB rfl (zE rfl rfl yl (zF rfl rfl z0 sh23 rfl ?_))))
     refine zB rfl (zq (u:=(q).u) rfl ty23 rfl rfl (Int.natCast_nonneg _) (by simp[hq]) cl61 ?_)
     refine wk rfl rfl wZ ?_
     refine zW rfl rfl sh22 rfl ?_
     refine zw rfl ty22 rfl (List.length_map _) ?_
     refine zf rfl rfl rfl (zA (k_cF rfl (decide_eq_false (by omega)) (yO (k_region (zE rfl rfl yl (zF rfl rfl z2 sh23 rfl ?_))))))
     refine zH rfl rfl z8 sh61 rfl ?_
     refine o_weak 91 rfl (fun _=>rfl) (.agg _ _ (.lcons _ _ _ _ (.refl _) (.lcons _ _ _ _ (.ro .own _ _) (.lrefl _)))) ?_
     refine zBA (es:=[U.agg [U.lst Kd.ro 1 (zO (Scl.keys q)),U.lst Kd.ro 2 (zV (w::W))]]) rfl ty23 ze61 cl61 rfl rfl rfl rfl rfl rfl rfl rfl ?_
     refine wu rfl ap23_23 rfl rfl (by simp) (by simp) (by simp[zn,zi,oneU]) (by simp) ?_
     refine zE rfl rfl yl (yU rfl z2 sh23 rfl rfl ?_)
     refine zA ?_
     refine zK [(1,.lst .ro 1 (zO l)),(2,U.box 0 0),(4,U.box 1 0),(6,U.box 2 0),(7,.int .i64 ↑n)] (List.set Z 2 (SB.box [.lst .ro 2 (zV t.heard),U.lst Kd.own 2 [U.agg [.lst .ro 1 (zO q.keys),.lst .ro 2 (zV (w::W))]],.lst .ro 2 (zV t.pairs),.int .i64 t.lo,.int .i64 t.hi])) (.c4 rfl rfl rfl rfl (.cons rfl (.nil rfl))) rfl fun fr=>?_
     refine k_region (zB rfl ?_)
     refine yT rfl rfl rfl (by unfold I64;omega) (zC rfl (zA ?_))
     exact⟨kk - 1,by omega,n+1,_,by omega,(by show Z.set 2 _=_;rw[hZ,←hY,htk];rfl),.c4 rfl rfl rfl rfl (.cons rfl (.nil rfl))⟩
    |cons y Q=>
     subst hA
     refine k_seq (kQ (zB rfl (zE rfl rfl yl (zF rfl rfl z0 sh23 rfl ?_))))
     refine zB rfl (zq (u:=(q).u) rfl ty23 rfl rfl (Int.natCast_nonneg _) (by simp[hq]) cl61 ?_)
     refine wk rfl rfl wZ ?_
     refine zW rfl rfl sh22 rfl ?_
     refine zw rfl ty22 rfl (List.length_map _) ?_
     refine zf rfl rfl rfl (zA (k_cF rfl (decide_eq_false (by omega)) (yO (k_region (zE rfl rfl yl (zF rfl rfl z2 sh23 rfl ?_))))))
     refine zH rfl rfl z8 sh61 rfl ?_
     refine o_weak 91 rfl (fun _=>rfl) (.agg _ _ (.lcons _ _ _ _ (.refl _) (.lcons _ _ _ _ (.ro .own _ _) (.lrefl _)))) ?_
     refine zBA (es:=[U.agg [U.lst Kd.ro 1 (zO (Scl.keys q)),U.lst Kd.ro 2 (zV (w::W))]]) rfl ty23 ze61 cl61 rfl rfl rfl rfl rfl rfl rfl rfl ?_
     refine zGk (2) 1 rfl ap23_23 rfl z2 rfl rfl (by simp) (by simp) (by simp[zn,zi,oneU]) (by simp at hQl ⊢;omega) ?_
     refine zE rfl rfl yl (yU rfl (at_put z2) sh23 rfl rfl ?_)
     refine zA ?_
     refine zK [(1,.lst .ro 1 (zO l)),(2,U.box 0 0),(4,U.box 1 0),(6,U.box 2 0),(7,.int .i64 ↑n)] (List.set (List.set Z 2 (SB.box [.lst .ro 2 (zV t.heard),.lst .ro 2 (yn (y::Q)),.lst .ro 2 (zV t.pairs),.int .i64 t.lo,.int .i64 t.hi])) 2 (SB.box [.lst .ro 2 (zV t.heard),U.lst Kd.own 2 (Scl.u y::List.append (List.map Scl.u Q) [U.agg [.lst .ro 1 (zO q.keys),.lst .ro 2 (zV (w::W))]]),.lst .ro 2 (zV t.pairs),.int .i64 t.lo,.int .i64 t.hi])) (.c4 rfl rfl rfl rfl (.cons rfl (.nil rfl))) rfl fun fr=>?_
     refine k_region (zB rfl ?_)
     refine yT rfl rfl rfl (by unfold I64;omega) (zC rfl (zA ?_))
     exact⟨kk - 1,by omega,n+1,_,by omega,(by show(Z.set 2 _).set 2 _=_;rw[hZ,←hY,htk,accQ_snoc];rfl),.c4 rfl rfl rfl rfl (.cons rfl (.nil rfl))⟩
 ·have hnN:n=t.scales.length:=by omega
  subst hnN
  rw[List.take_length]at hA
  have hnp:=hok.sh.np
  obtain⟨Q,hQ⟩:∃Q,Q=t.scales.map (zEh l):=⟨_,rfl⟩
  rw[←hQ]at hA
  refine k_seq (kQ (zB rfl (zE rfl rfl yl (zF rfl rfl y0 sh23 rfl ?_))))
  refine zw rfl ty23 rfl (List.length_map _) ?_
  refine zf rfl rfl rfl (zA (k_cF rfl (decide_eq_false (by omega)) (yO (k_seq (kQ (zC rfl (zA (zN ?_))))))))
  refine yg (fun k3 s3=>∃(m:Nat),k3+m=t.pairs.length∧s3.st=Y.set 2 (.box [.lst .ro 2 (zV t.heard),A,.lst .ro 2 (zV t.pairs),.int .i64 (zBg l (t.pairs.take m) t.lo),.int .i64 (zBf l (t.pairs.take m) t.hi)])∧Holds s3 [(1,.lst .ro 1 (zO l)),(2,.box 0 0),(4,.box 1 0),(6,.box 2 0),(13,.int .i64 m)]) (fun k3 s3 hI3=>?_) t.pairs.length _ ⟨0,rfl,(by show Y=Y.set 2 _;exact(set_same y2).symm),.c4 rfl rfl rfl rfl (.cons rfl (.nil rfl))⟩
  obtain⟨m,hk3,hst3,hs3⟩:=hI3
  obtain⟨LA,hLA⟩:∃LA,LA=zBg l (t.pairs.take m) t.lo:=⟨_,rfl⟩
  obtain⟨LB,hLB⟩:∃LB,LB=zBf l (t.pairs.take m) t.hi:=⟨_,rfl⟩
  rw[←hLA,←hLB]at hst3
  obtain⟨Z,hZ⟩:∃Z,Z=Y.set 2 (.box [.lst .ro 2 (zV t.heard),A,.lst .ro 2 (zV t.pairs),.int .i64 LA,.int .i64 LB]):=⟨_,rfl⟩
  rw[←hZ]at hst3
  have z0:Z[0]? =some (.box t.cs):=by rw[hZ];exact yu y0 (by decide)
  have z1:Z[1]? =some (.box V0):=by rw[hZ];exact yu y1 (by decide)
  have z2:Z[2]? =some (.box [.lst .ro 2 (zV t.heard),A,.lst .ro 2 (zV t.pairs),.int .i64 LA,.int .i64 LB]):=by rw[hZ];exact at_put y2
  refine zK _ _ hs3 hst3 fun fr3=>?_
  by_cases hm:m<t.pairs.length
  ·obtain⟨q,hq⟩:∃q,t.pairs[m]? =some q:=⟨t.pairs[m],List.getElem?_eq_getElem hm⟩
   obtain⟨_,ra,rb⟩:=hok.pr q (List.mem_of_getElem? hq)
   have la:l[q.a.toNat]? =some (pL l q.a):=by unfold pL;rw[List.getElem?_eq_getElem (by omega)];rfl
   have lb:l[q.b.toNat]? =some (pL l q.b):=by unfold pL;rw[List.getElem?_eq_getElem (by omega)];rfl
   have pa:=hb q.a ra
   have pb:=hb q.b rb
   have sa:zBg l (t.pairs.take (m+1)) t.lo=min LA (pL l q.b - pL l q.a):=by rw[hLA];unfold zBg;rw[List.take_add_one,hq,List.foldl_append];rfl
   have sb:zBf l (t.pairs.take (m+1)) t.hi=max LB (pL l q.b - pL l q.a):=by rw[hLB];unfold zBf;rw[List.take_add_one,hq,List.foldl_append];rfl
   generalize pL l q.a=pa0 at pa la sa sb
   generalize pL l q.b=pb0 at pb lb sa sb
   have q41:=ret41 (orc:=orc) hi (min LA (pb0 - pa0)) (max LB (pb0 - pa0))
   refine k_seq (kQ (zB rfl (zE rfl rfl wE (zF rfl rfl z0 sh24 rfl ?_))))
   refine zw rfl ty24 rfl (List.length_map _) ?_
   refine zf rfl rfl rfl (zA (k_cT rfl (decide_eq_true (by omega)) (zQ (k_seq (zN (k_seq (yr [.plain,.plain,.read true,.plain,.plain,.plain,.read true,.plain,.read true,.plain,.plain,.read true,.plain,.plain,.plain,.read true,.plain,.read true,.plain,.plain] (by kernel_rfl) (by kernel_rfl) (by kernel_rfl) ?_)))))))
   refine zD (zB rfl (zA rfl)) (zD (zE rfl rfl wE (zA rfl)) ?_)
   refine zS rfl (zF rfl rfl z0 sh24 rfl (zA rfl)) ?_
   refine zD (zB rfl (zA rfl)) (zD (zq (u:=(q).u) rfl ty24 rfl rfl (Int.natCast_nonneg _) (by simp[hq]) cl48 (zA rfl)) ?_)
   refine zD (zHo rfl ty48 rfl rfl (by omega) (by omega) cl3 (zA rfl)) ?_
   refine zS rfl (zW rfl rfl sh3 rfl (zA rfl)) ?_
   refine zD (zq (u:=.int .i64 pb0) rfl ty29 rfl rfl (by omega) (by rw[List.getElem?_map,lb];rfl) cl3 (zA rfl)) ?_
   refine zS rfl (zW rfl rfl sh3 rfl (zA rfl)) ?_
   refine wI [(1,.lst .ro 1 (zO l)),(2,U.box 0 0),(4,U.box 1 0),(6,U.box 2 0),(13,.int .i64 ↑m),(110,.int .i64 pb0)] [] (Z) (.c4 rfl rfl rfl rfl (.cons rfl (.cons rfl (.nil rfl)))) rfl rfl fun fr=>?_
   refine zD (zB rfl (zA rfl)) (zD (zE rfl rfl wE (zA rfl)) ?_)
   refine zS rfl (zF rfl rfl z0 sh24 rfl (zA rfl)) ?_
   refine zD (zB rfl (zA rfl)) (zD (zq (u:=(q).u) rfl ty24 rfl rfl (Int.natCast_nonneg _) (by simp[hq]) cl48 (zA rfl)) ?_)
   refine zD (zHo rfl ty48 rfl rfl (by omega) (by omega) cl3 (zA rfl)) ?_
   refine zS rfl (zW rfl rfl sh3 rfl (zA rfl)) ?_
   refine zD (zq (u:=.int .i64 pa0) rfl ty29 rfl rfl (by omega) (by rw[List.getElem?_map,la];rfl) cl3 (zA rfl)) ?_
   refine zS rfl (zW rfl rfl sh3 rfl (zA rfl)) ?_
   refine wI [(1,.lst .ro 1 (zO l)),(2,U.box 0 0),(4,U.box 1 0),(6,U.box 2 0),(13,.int .i64 ↑m),(110,.int .i64 pb0),(119,.int .i64 pa0)] [] (Z) (.c4 rfl rfl rfl rfl (.cons rfl (.cons rfl (.cons rfl (.nil rfl))))) rfl rfl fun fr=>?_
   refine zD (zAW rfl rfl rfl (by unfold I64;omega) (zA rfl)) ?_
   refine zD (zC rfl (zA rfl)) ?_
   refine wc ?_
   refine zK [(1,.lst .ro 1 (zO l)),(2,U.box 0 0),(4,U.box 1 0),(6,U.box 2 0),(13,.int .i64 ↑m),(14,.int .i64 (pb0 - pa0))] (Z) (.c4 rfl rfl rfl rfl (.cons rfl (.cons rfl (.nil rfl)))) rfl fun fr=>?_
   refine k_region (zE rfl rfl zAD (zE rfl rfl zk (zF rfl rfl z2 sh3 rfl ?_)))
   refine zB rfl (o_min rfl rfl rfl ?_)
   refine zE rfl rfl zAD (zE rfl rfl zp (zF rfl rfl z2 sh3 rfl ?_))
   refine zB rfl ?_
   refine yR [(1,.lst .ro 1 (zO l)),(2,U.box 0 0),(4,U.box 1 0),(6,U.box 2 0),(13,.int .i64 ↑m),(125,.int .i64 (Min.min LA (pb0 - pa0))),(128,.int .i64 LB),(129,.int .i64 (pb0 - pa0))] [] (Z) (.c4 rfl rfl rfl rfl (.c4 rfl rfl rfl rfl (.nil rfl))) rfl rfl fun fr=>?_
   refine o_max rfl rfl rfl ?_
   refine zP rfl (q41) (.lrefl _) (zE rfl rfl zAD (zJ rfl z2 sh26 rfl rfl rfl rfl rfl ?_))
   refine zA ?_
   refine zK [(1,.lst .ro 1 (zO l)),(2,U.box 0 0),(4,U.box 1 0),(6,U.box 2 0),(13,.int .i64 ↑m)] (List.set Z 2 (SB.box [.lst .ro 2 (zV t.heard),A,.lst .ro 2 (zV t.pairs),.int .i64 (Min.min LA (pb0 - pa0)),.int .i64 (Max.max LB (pb0 - pa0))])) (.c4 rfl rfl rfl rfl (.cons rfl (.nil rfl))) rfl fun fr=>?_
   refine k_region (zB rfl ?_)
   refine yT rfl rfl rfl (by unfold I64;omega) (zC rfl (zA ?_))
   exact⟨k3 - 1,by omega,m+1,by omega,(by show Z.set 2 _=_;rw[hZ,List.set_set,sa,sb]),.c4 rfl rfl rfl rfl (.cons rfl (.nil rfl))⟩
  ·have hmN:m=t.pairs.length:=by omega
   subst hmN
   rw[List.take_length]at hLA hLB
   have hT:zCg t l=⟨t.heard,Q,t.pairs,LA,LB⟩:=by rw[hLA,hLB,hQ];rfl
   rw[hT]
   have q17:=ret17 (orc:=orc) hi ⟨t.heard,Q,t.pairs,LA,LB⟩
   have q35:=ret35 (orc:=orc) hi ⟨t.heard,Q,t.pairs,LA,LB⟩
   have hle:UW (.l [U.agg [.lst .ro 2 (zV t.heard),A,.lst .ro 2 (zV t.pairs),.int .i64 LA,.int .i64 LB]]) (.l [(⟨t.heard,Q,t.pairs,LA,LB⟩:Ts).u]):=.lcons _ _ _ _ (.agg _ _ (.lcons _ _ _ _ (.refl _) (.lcons _ _ _ _ (by rw[←hA];exact uw_accQ Q) (.lrefl _)))) (.lrefl _)
   rw[hV0]at z1
   have hone:[U.lst .ro 2 (zV t.heard),A,.lst .ro 2 (zV t.pairs),.int .i64 LA,.int .i64 LB].all oneU=true:=by
    rw[←hA]
    cases Q<;>rfl
   have hdA:UW (.u (dg A)) (.u (.lst .ro 2 (yn Q))):=by
    rw[←hA]
    cases Q with
    |nil=>exact .nil .full .ro 2
    |cons x Q=>exact .refl _
   cases hvx:ym ⟨t.heard,Q,t.pairs,LA,LB⟩with
   |true=>
    rw[hvx]at q17 q35
    rw[if_pos rfl]at q17
    refine k_seq (kQ (zB rfl (zE rfl rfl wE (zF rfl rfl z0 sh24 rfl ?_))))
    refine zw rfl ty24 rfl (List.length_map _) ?_
    refine zf rfl rfl rfl (zA (k_cF rfl (decide_eq_false (by omega)) (yO (k_seq (yr [.read true,.read true,.read false,.plain,.plain,.read true,.read false,.plain,.plain,.plain] (by kernel_rfl) (by kernel_rfl) (by kernel_rfl) ?_)))))
    refine zS rfl (zH rfl rfl z2 sh28 rfl (zA rfl)) ?_
    refine zS rfl (zH rfl rfl z2 sh28 rfl (zA rfl)) ?_
    refine wF rfl (q17) (.int _ _) hle ?_
    refine zD (zBB rfl rfl rfl (zA rfl)) ?_
    refine zD (zB rfl (zA rfl)) (d_gD rfl rfl rfl rfl rfl (zS rfl (zH rfl rfl z2 sh28 rfl (zA rfl)) ?_))
    refine d_gD rfl rfl rfl rfl rfl (wF rfl (q35) (.bool _) hle ?_)
    refine zD (zd rfl rfl rfl (zA rfl)) ?_
    refine zD (zJ rfl z1 sh28 rfl rfl rfl rfl hone (zA rfl)) ?_
    refine zD (zC rfl (zA rfl)) ?_
    refine wc ?_
    refine zb ?_
    refine⟨.inr rfl,_,.cons _ _ _ _ (.cellN 4 28 _ _ _ _ rfl (at_put z1) sh28 rfl) (.cons _ _ _ _ (.tmp 5) .nil),?_⟩
    exact .tup _ _ (.lcons _ _ _ _ (.agg _ _ (.lcons _ _ _ _ (.refl _) (.lcons _ _ _ _ hdA (.lrefl _)))) (.lrefl _))
   |false=>
    rw[hvx]at q17 q35
    rw[if_neg (by decide)]at q17
    refine k_seq (kQ (zB rfl (zE rfl rfl wE (zF rfl rfl z0 sh24 rfl ?_))))
    refine zw rfl ty24 rfl (List.length_map _) ?_
    refine zf rfl rfl rfl (zA (k_cF rfl (decide_eq_false (by omega)) (yO (k_seq (yr [.read true,.read true,.read false,.plain,.plain,.read true,.read false,.plain,.plain,.plain] (by kernel_rfl) (by kernel_rfl) (by kernel_rfl) ?_)))))
    refine zS rfl (zH rfl rfl z2 sh28 rfl (zA rfl)) ?_
    refine zS rfl (zH rfl rfl z2 sh28 rfl (zA rfl)) ?_
    refine wF rfl (q17) (.int _ _) hle ?_
    refine zD (zBB rfl rfl rfl (zA rfl)) ?_
    refine zD (zB rfl (zA rfl)) (d_gS rfl rfl rfl rfl rfl (d_gS rfl rfl rfl rfl rfl (zD (zh rfl rfl rfl (zA rfl)) ?_)))
    refine zD (zJ rfl z1 sh28 rfl rfl rfl rfl hone (zA rfl)) ?_
    refine zD (zC rfl (zA rfl)) ?_
    refine wc ?_
    refine zb ?_
    refine⟨.inr rfl,_,.cons _ _ _ _ (.cellN 4 28 _ _ _ _ rfl (at_put z1) sh28 rfl) (.cons _ _ _ _ (.tmp 5) .nil),?_⟩
    exact .tup _ _ (.lcons _ _ _ _ (.agg _ _ (.lcons _ _ _ _ (.refl _) (.lcons _ _ _ _ hdA (.lrefl _)))) (.lrefl _))
end Go.Proofs.Ytinhcdijbcamaaa.tuneTrue
