import Derived.Test.YtpckmojdekdbbaaGreatVamT9
set_option linter.unusedVariables false
set_option linter.unusedSimpArgs false
set_option linter.constructorNameAsVariable false
namespace Go.Proofs.YtpckmojdekdbbaaGreat.settles
open Vam
variable {is:FuncId→Bool}{orc:Known}{z:Zt}
theorem by68:Program.bytesOf Tryz.prog 68=32:=by kernel_rfl
theorem ty29:tyOf Tryz.prog 29=.array 2 3:=by kernel_rfl
theorem ze27:yY Tryz.prog 27=some ((.cons (.int .i64 0) (.cons .nils (.cons .nils (.cons .nils (.cons .nils .nil))))):V):=by kernel_rfl
theorem zFG:AppT Tryz.prog 25 25 68 4 32 ((.cons (.int .i64 0) (.cons (.int .i64 0) (.cons (.int .i64 0) (.cons (.int .i64 0) .nil)))):V):=⟨ty25,⟨_,ty25⟩,cl68,by decide,by68,ze68,rfl⟩
noncomputable def b9:Code:=(Tryz.f9.body).getD .skip
theorem body9:bodyOf Tryz.prog 9=some (135,b9,[.tmp 6]):=by kernel_rfl
theorem pure9:pureFn Tryz.prog 9=true:=by kernel_rfl
theorem tru_iff(h:ZOk z):truB z=true↔ ∀k,k<z.keys.length→trueK z k:=by
 unfold truB trueK
 rw[List.all_eq_true]
 have e:∀k,(!conB (pitS z k) (z.yrs.toNat+1))=true↔ ∀y,y≤z.yrs.toNat→(pitS z k y).1≤(pitS z k y).2:=fun k=>by
  rw[Bool.not_eq_true',con_iff]
  exact⟨fun h y hy=>h y (by omega),fun h y hy=>h y (by omega)⟩
 constructor
 ·intro h2 k hk;exact(e k).1 (h2 k (List.mem_range.2 hk))
 ·intro h2 k hk;exact(e k).2 (h2 k (List.mem_range.1 hk))
def Zt.lks(z:Zt)(l:List Lk):Zt:={z with looks:=l}
theorem lks_row{l:List Lk}{k:Nat}{r:Nat→Int}(hr:Row z k r)(h:∀x∈l,x.ky=k→x∈z.looks):Row (z.lks l) k r:=⟨hr.b,hr.g,fun x hx hk=>hr.l x (h x hx hk) hk⟩
theorem lks_ok(h:ZOk z){l:List Lk}(hl:l.length≤12)(hm:∀x∈l,x∈z.looks):ZOk (z.lks l):=⟨h.y,h.k,h.s,h.f,hl,h.kk,h.ss,h.ff,fun x hx=>h.ll x (hm x hx)⟩
theorem zEB{w:Zt}(h:ZOk z)(hw:ZOk w)(hy:z.yrs=w.yrs)(hk:z.keys.length=w.keys.length)(hr:∀k r,k<z.keys.length→Row z k r→Row w k r){k y:Int}(h0:wasE z k y=0):wasE w k y=0∧(wasR w k y).1≤(wasR z k y).1∧(wasR z k y).2≤(wasR w k y).2:=by
 obtain⟨_,⟨⟨hk0,hk1⟩,hy0,hy1⟩,ht⟩:=zCp.1 h0
 have ht:=(tru_iff h).1 ht
 have hp:=fun k hk'=>pit_wider h hw (k:=k) (j:=k) hk' (by omega) hy (fun r=>hr k r hk') (ht k hk')
 have hw0:wasE w k y=0:=zCp.2 ⟨hw,⟨⟨hk0,by omega⟩,hy0,by omega⟩,(tru_iff hw).2 fun j hj=>(hp j (by omega)).1⟩
 refine⟨hw0,?_⟩
 unfold wasR
 rw[if_pos h0,if_pos hw0]
 exact(hp k.toNat (by omega)).2 y.toNat (by omega)
theorem wasE_ok(h:ZOk z){k y:Int}(hk:0≤k∧k<z.keys.length)(hy:0≤y∧y≤z.yrs):wasE z k y=0∨wasE z k y=42:=by
 unfold wasE askT askV
 rw[zBL.2 h,spot_iff.2 ⟨hk,hy⟩]
 cases truB z<;>simp
theorem wasE_bad(h:zAB z=false)(k y:Int):wasE z k y=40:=by
 unfold wasE askT askV
 rw[h];simp
theorem wasR_bad{k y:Int}(h:wasE z k y≠0):wasR z k y=(0,0):=by unfold wasR;rw[if_neg h]
theorem was_same{w:Zt}(h:ZOk z)(hw:ZOk w)(hy:z.yrs=w.yrs)(hk:z.keys.length=w.keys.length)(hr:∀k r,k<z.keys.length→(Row z k r↔Row w k r)){k y:Int}(hkk:0≤k∧k<z.keys.length)(hyy:0≤y∧y≤z.yrs):wasE w k y=wasE z k y∧wasR w k y=wasR z k y:=by
 rcases wasE_ok h hkk hyy with h0|h0
 ·have h1:=zEB h hw hy hk (fun k r hk=>(hr k r hk).1) h0
  have h2:=zEB hw h hy.symm hk.symm (fun k r hk'=>(hr k r (by omega)).2) h1.1
  exact⟨by rw[h1.1,h0],Prod.ext (by omega) (by omega)⟩
 ·rcases wasE_ok hw (k:=k) (y:=y) (by omega) (by omega)with h1|h1
  ·have h2:=zEB hw h hy.symm hk.symm (fun k r hk'=>(hr k r (by omega)).2) h1
   rw[h2.1]at h0;cases h0
  ·exact⟨by rw[h1,h0],by rw[wasR_bad (by rw[h1];decide),wasR_bad (by rw[h0];decide)]⟩
theorem more_law(h:ZOk z)(hl:z.looks.length≠12)(mo:Lk){k y:Int}(hk:0≤k∧k<z.keys.length)(hy:0≤y∧y≤z.yrs):
  (wasE (z.lks (z.looks++[mo])) k y≠0→(wasE (z.lks (z.looks++[mo])) k y=40∨wasE (z.lks (z.looks++[mo])) k y=42)∧wasR (z.lks (z.looks++[mo])) k y=(0,0))∧
  (wasE (z.lks (z.looks++[mo])) k y=0→wasE z k y=0∧((wasR z k y).1≤(wasR (z.lks (z.looks++[mo])) k y).1∧(wasR (z.lks (z.looks++[mo])) k y).2≤(wasR z k y).2)∧(mo.ky≠k→wasR z k y=wasR (z.lks (z.looks++[mo])) k y)):=by
 constructor
 ·intro h0
  refine⟨?_,wasR_bad h0⟩
  cases hv:zAB (z.lks (z.looks++[mo]))with
  |false=>exact .inl (wasE_bad hv _ _)
  |true=>exact .inr ((wasE_ok (zBL.1 hv) hk hy).resolve_left h0)
 ·intro h0
  have hx:=(zCp.1 h0).1
  have h1:=zEB hx h rfl rfl (fun j r hj hr=>⟨hr.b,hr.g,fun x hx hk=>hr.l x (List.mem_append_left _ hx) hk⟩) h0
  refine⟨h1.1,h1.2,fun hne=>?_⟩
  have hkN:k.toNat<z.keys.length:=by omega
  have hp:=pit_wider h hx (k:=k.toNat) (j:=k.toNat) hkN hkN rfl (fun r hr=>⟨hr.b,hr.g,fun x hx hk=>by
   rcases List.mem_append.1 hx with hx|hx
   ·exact hr.l x hx hk
   ·rcases List.mem_singleton.1 hx with rfl
    omega⟩) ((tru_iff h).1 (zCp.1 h1.1).2.2 _ hkN)
  have h2:=hp.2 y.toNat (by omega)
  have h3:=h1.2
  unfold wasR at h3 ⊢
  rw[if_pos h0,if_pos h1.1]at h3 ⊢
  exact Prod.ext (by omega) (by omega)
theorem spn_eq(x y:Sp):binV Tryz.prog 35 .eql (valK (spU x)) (valK (spU y))=some (.bool (decide (x=y))):=by
 obtain⟨a,b⟩:=x
 obtain⟨c,d⟩:=y
 have h:binV Tryz.prog 35 .eql (valK (yQ a b)) (valK (yQ c d))=opt none (fun x=>some (V.bool x)) (Vam.cond (ieq a c) (Vam.cond (ieq b d) (some true) (some false)) (some false)):=by kernel_rfl
 show binV Tryz.prog 35 .eql (valK (yQ a b)) (valK (yQ c d))=_
 rw[h,wq,wq]
 have e:decide ((a,b)=(c,d))=((a==c)&&(b==d)):=by
  rw[Bool.eq_iff_iff,decide_eq_true_eq,Bool.and_eq_true,beq_iff_eq,beq_iff_eq,Prod.mk.injEq]
 rw[e]
 cases a==c<;>cases b==d<;>rfl
theorem spn_ne(x y:Sp):binV Tryz.prog 35 .neq (valK (spU x)) (valK (spU y))=some (.bool (!decide (x=y))):=by
 obtain⟨a,b⟩:=x
 obtain⟨c,d⟩:=y
 have h:binV Tryz.prog 35 .neq (valK (yQ a b)) (valK (yQ c d))=opt none (fun x=>some (V.bool (!x))) (Vam.cond (ieq a c) (Vam.cond (ieq b d) (some true) (some false)) (some false)):=by kernel_rfl
 show binV Tryz.prog 35 .neq (valK (yQ a b)) (valK (yQ c d))=_
 rw[h,wq,wq]
 have e:decide ((a,b)=(c,d))=((a==c)&&(b==d)):=by
  rw[Bool.eq_iff_iff,decide_eq_true_eq,Bool.and_eq_true,beq_iff_eq,beq_iff_eq,Prod.mk.injEq]
 rw[e]
 cases a==c<;>cases b==d<;>rfl
def accK(l:List Lk):U:=match l with
 |[]=>.lst .full 0 []
 |l=>.lst .own 4 (lksU l)
theorem accK_snoc(l:List Lk)(x:Lk):accK (l++[x])=.lst .own 4 (lksU l++[x.u]):=by
 cases l with
 |nil=>rfl
 |cons y l=>show U.lst .own 4 (lksU ((y::l)++[x]))=_;simp[lksU]
theorem le_accK(l:List Lk):UW (.u (accK l)) (.u (.lst .ro 4 (lksU l))):=by
 cases l with
 |nil=>exact .nil _ _ _
 |cons x l=>exact .ro _ _ _
abbrev lkC(z:Zt)(u:U):List U:=[.int .i64 z.yrs,.lst .ro 7 (kysU z.keys),.lst .ro 2 (spsU z.steps),.lst .ro 4 (flsU z.files),u]
theorem lks_one(l:List Lk):(zz (lksU l)).all oneU=true:=by
 rw[List.all_eq_true]
 intro u hu
 obtain⟨e,he,hu⟩:=List.mem_flatMap.1 hu
 obtain⟨x,_,rfl⟩:=List.mem_map.1 he
 simp only[zj,List.mem_cons,List.not_mem_nil,or_false]at hu
 rcases hu with rfl|rfl|rfl|rfl<;>rfl
set_option maxHeartbeats 16000000 in
theorem ret9(hi:Off is)(z:Zt)(mo:Lk)(n1 n2:Int)(r21:RetP Tryz.prog is orc 21 [] (.bool true)):RetP Tryz.prog is orc 9 [z.u,mo.u,.agg [.int .i64 n1,.int .i64 n2]] (.bool true):=by
 refine wG body9 pure9 (hi 9 (by decide)) rfl rfl (dat_l3 (dat_z z 5) (.agg _ _ (zGq (.int _ _ _) (.int _ _ _) (.int _ _ _) (.int _ _ _))) (yb _ _ 6)) (.inl (.bool _ _)) ?_
 have q36:=ret36 (orc:=orc) hi z
 cases hv:zAB z with
 |false=>
  rw[hv]at q36
  refine kQ (yf rfl rfl (yf rfl rfl (yf rfl rfl (zF rfl (zA ?_)))))
  refine zQ [(3,U.box 0 0),(4,U.box 1 0),(5,U.box 2 0)] ([SB.box [.int .i64 (Zt.yrs z),.lst .ro 7 (kysU (Zt.keys z)),.lst .ro 2 (spsU (Zt.steps z)),.lst .ro 4 (flsU (Zt.files z)),.lst .ro 4 (lksU (Zt.looks z))],SB.box [.int .i64 (Lk.yr mo),.int .i64 (Lk.ky mo),.int .i64 (Lk.rd mo),.int .i64 (Lk.er mo)],SB.box [.int .i64 n1,.int .i64 n2]]) (.n3 rfl) rfl fun fr=>?_
  refine k_seq (kQ (kB sh27 rfl (zd rfl (q36) (.lrefl _) (zFY rfl rfl (zD rfl (ke rfl (ke rfl (ke rfl (ke rfl (kE rfl ?_))))))))))
  refine zA (k_cT rfl rfl ?_)
  refine kQ (zd rfl (r21) (.lrefl _) (zF rfl (zA (yJ ?_))))
  refine⟨.inr rfl,_,.cons _ _ _ _ (.tmp 6) .nil,?_⟩
  exact .refl _
 |true=>
  rw[hv]at q36
  have h:=zBL.1 hv
  by_cases hl:(z.looks.length:Int)=12
  ·have hd:=kF hl
   refine kQ (yf rfl rfl (yf rfl rfl (yf rfl rfl (zF rfl (zA ?_)))))
   refine zQ [(3,U.box 0 0),(4,U.box 1 0),(5,U.box 2 0)] ([SB.box [.int .i64 (Zt.yrs z),.lst .ro 7 (kysU (Zt.keys z)),.lst .ro 2 (spsU (Zt.steps z)),.lst .ro 4 (flsU (Zt.files z)),.lst .ro 4 (lksU (Zt.looks z))],SB.box [.int .i64 (Lk.yr mo),.int .i64 (Lk.ky mo),.int .i64 (Lk.rd mo),.int .i64 (Lk.er mo)],SB.box [.int .i64 n1,.int .i64 n2]]) (.n3 rfl) rfl fun fr=>?_
   refine k_seq (kQ (kB sh27 rfl (zd rfl (q36) (.lrefl _) (zFY rfl rfl (zD rfl (kf rfl (kw rfl yq (kf rfl (kA sh25 rfl (kf rfl (yV rfl ty25 rfl (List.length_map _) ?_)))))))))))
   refine kf rfl (ks rfl (kD rfl ?_))
   refine zA (k_cT rfl (by assumption) (kQ (zd rfl (r21) (.lrefl _) (zF rfl (zA (yJ ?_))))))
   refine⟨.inr rfl,_,.cons _ _ _ _ (.tmp 6) .nil,?_⟩
   exact .refl _
  ·have hd:=kG hl
   have hy:=h.y
   have hk:=h.k
   have hll:=h.l
   refine kQ (yf rfl rfl (yf rfl rfl (yf rfl rfl (zF rfl (zA (k_seq (kQ (kB sh27 rfl (zd rfl (q36) (.lrefl _) (zFY rfl rfl (zD rfl (kf rfl (kw rfl yq (kf rfl (kA sh25 rfl ?_)))))))))))))))
   refine kf rfl (yV rfl ty25 rfl (List.length_map _) ?_)
   refine kf rfl (ks rfl (kD rfl ?_))
   refine zA (k_cF rfl (by assumption) (zr (k_seq (k_drawA [.read true,.read true,.pre,.pre,.plain,.plain] [(3,7)] (by kernel_rfl) (by kernel_rfl) (by kernel_rfl) ?_))))
   refine zL rfl (kB sh27 rfl (zA rfl)) ?_
   refine zL rfl (kB sh27 rfl (zA rfl)) ?_
   refine d_pre rfl ze27 ?_
   refine d_pre rfl ze27 ?_
   refine zC (zU rfl rfl sh27 rfl rfl rfl rfl rfl (zA rfl)) ?_
   refine zC (zU rfl rfl sh27 rfl rfl rfl rfl rfl (zA rfl)) ?_
   refine zBI ⟨fun p hp=>by simp only[List.mem_cons,List.not_mem_nil,or_false]at hp;rcases hp with rfl<;>exact⟨_,_,_,_,_,rfl,rfl,Nat.ne_of_beq_eq_false rfl,rfl⟩,?_⟩
   have hlen:(lksU z.looks).length≤12:=by simpa using hll
   refine k_cut (fun s'=>s'.st=[SB.box z.cs,.box [.int .i64 mo.yr,.int .i64 mo.ky,.int .i64 mo.rd,.int .i64 mo.er],.box [.int .i64 n1,.int .i64 n2],.box (lkC z (.lst .own 4 (lksU z.looks++[mo.u]))),.box z.cs]∧Holds s' [(3,.box 0 0),(4,.box 1 0),(5,.box 2 0),(7,.box 3 0),(8,.box 4 0)]) ?_ fun s4 hM=>?_
   ·refine zQ [(3,.box 0 0),(4,.box 1 0),(5,.box 2 0),(7,.box 3 0),(8,.box 4 0)] [SB.box z.cs,.box [.int .i64 mo.yr,.int .i64 mo.ky,.int .i64 mo.rd,.int .i64 mo.er],.box [.int .i64 n1,.int .i64 n2],.box z.cs,.box z.cs] (.n5 rfl) rfl fun fr=>?_
    cases hL:lksU z.looks with
    |nil=>
     rw[hL]at hlen
     refine wj [.lay,.plain,.read true,.quiet,.read true,.lay,.plain,.plain,.plain] (by kernel_rfl) (by kernel_rfl) (by kernel_rfl) ?_
     refine d_lay (es:=[]) rfl ty25 ze68 cl68 rfl rfl rfl rfl rfl rfl rfl rfl ?_
     refine zC (kw rfl yq (zA rfl)) ?_
     refine zL rfl (kA sh25 rfl (zA rfl)) ?_
     refine d_appendQ0 rfl zFG rfl (by show _=U.lst .ro 4 [];rw[←hL];rfl) (.inl rfl) (.inl rfl) ?_
     refine zL rfl (kB sh68 rfl (zA rfl)) ?_
     refine d_lay (es:=[U.agg [.int .i64 (Lk.yr mo),.int .i64 (Lk.ky mo),.int .i64 (Lk.rd mo),.int .i64 (Lk.er mo)]]) rfl ty25 ze68 cl68 rfl rfl rfl rfl rfl rfl rfl rfl ?_
     refine zC (zGU rfl zFG rfl rfl (by simp) (by simp) (by simp[zz,zj,oneU]) (by simp) (zA rfl)) ?_
     refine zC (kw rfl yq (zA rfl)) ?_
     refine zC (zBX rfl rfl sh25 rfl rfl (zA rfl)) ?_
     refine zBI ?_
     exact⟨rfl,rfl,.c4 rfl rfl rfl rfl (.n1 rfl)⟩
    |cons u L=>
     rw[hL]at hlen
     refine wj [.lay,.plain,.read true,.quiet,.read true,.lay,.plain,.plain,.plain] (by kernel_rfl) (by kernel_rfl) (by kernel_rfl) ?_
     refine d_lay (es:=[]) rfl ty25 ze68 cl68 rfl rfl rfl rfl rfl rfl rfl rfl ?_
     refine zC (kw rfl yq (zA rfl)) ?_
     refine zL rfl (kA sh25 rfl (zA rfl)) ?_
     refine d_appendQ rfl zFG rfl rfl (.inl rfl) (.inl rfl) (lks_one _) (by rw[hL];simp at hlen ⊢;omega) (by rw[hL];simp) ?_
     refine zL rfl (kB sh68 rfl (zA rfl)) ?_
     refine d_lay (es:=[U.agg [.int .i64 (Lk.yr mo),.int .i64 (Lk.ky mo),.int .i64 (Lk.rd mo),.int .i64 (Lk.er mo)]]) rfl ty25 ze68 cl68 rfl rfl rfl rfl rfl rfl rfl rfl ?_
     refine zC (o_appendO rfl zFG rfl rfl (by simp) (by simp) (by simp[zz,zj,oneU]) (by rw[hL];simp at hlen ⊢;omega) (zA rfl)) ?_
     refine zC (kw rfl yq (zA rfl)) ?_
     refine zC (zBX rfl rfl sh25 rfl rfl (zA rfl)) ?_
     refine zBI ?_
     exact⟨rfl,(by rw[←hL];rfl),.c4 rfl rfl rfl rfl (.n1 rfl)⟩
   ·obtain⟨hst4,hs4⟩:=hM
    refine zQ _ _ hs4 hst4 fun fr4=>?_
    obtain⟨R,hR⟩:∃R,R=z.looks.reverse:=⟨_,rfl⟩
    have hRl:R.length=z.looks.length:=by rw[hR,List.length_reverse]
    refine kQ (kw rfl yq (zBX rfl rfl sh25 rfl rfl (zA ?_)))
    refine zQ [(3,U.box 0 0),(4,U.box 1 0),(5,U.box 2 0),(7,U.box 3 0),(8,U.box 4 0)] ([SB.box (Zt.cs z),SB.box [.int .i64 (Lk.yr mo),.int .i64 (Lk.ky mo),.int .i64 (Lk.rd mo),.int .i64 (Lk.er mo)],SB.box [.int .i64 n1,.int .i64 n2],SB.box (lkC z (U.lst Kd.own 4 (lksU (Zt.looks z)++[Lk.u mo]))),SB.box (List.set (Zt.cs z) (0+4) (.lst .full 0 []))]) (.n5 rfl) rfl fun fr=>?_
    refine k_seq (kQ (kw rfl yq (kA sh25 rfl (yV rfl ty25 rfl (List.length_map _) ?_))))
    refine zDt rfl rfl rfl (by unfold I64;omega) (zF rfl (zA ?_))
    refine zQ [(3,U.box 0 0),(4,U.box 1 0),(5,U.box 2 0),(7,U.box 3 0),(8,U.box 4 0),(9,.int .i64 (↑(List.length (Zt.looks z)) - (1:Int)))] ([SB.box (Zt.cs z),SB.box [.int .i64 (Lk.yr mo),.int .i64 (Lk.ky mo),.int .i64 (Lk.rd mo),.int .i64 (Lk.er mo)],SB.box [.int .i64 n1,.int .i64 n2],SB.box (lkC z (U.lst Kd.own 4 (lksU (Zt.looks z)++[Lk.u mo]))),SB.box (List.set (Zt.cs z) (0+4) (.lst .full 0 []))]) (.n6 rfl) rfl fun fr=>?_
    refine zS ?_
    refine wJ (fun kk s1=>∃j:Nat,kk+j=z.looks.length∧s1.st=[SB.box z.cs,.box [.int .i64 mo.yr,.int .i64 mo.ky,.int .i64 mo.rd,.int .i64 mo.er],.box [.int .i64 n1,.int .i64 n2],.box (lkC z (.lst .own 4 (lksU z.looks++[mo.u]))),.box (lkC z (accK (R.take j)))]∧Holds s1 [(3,.box 0 0),(4,.box 1 0),(5,.box 2 0),(7,.box 3 0),(8,.box 4 0),(9,.int .i64 ((z.looks.length:Int) - 1 - j))]) (fun kk s1 hI=>?_) z.looks.length _ ⟨0,rfl,rfl,.c4 rfl rfl rfl rfl (.cons rfl (.cons (congrArg (U.int .i64) (by omega)) (.nil rfl)))⟩
    obtain⟨j,hkk,hst,hs⟩:=hI
    by_cases hin:j<z.looks.length
    ·obtain⟨i,hi2⟩:∃i:Nat,z.looks.length - 1 - j=i:=⟨_,rfl⟩
     obtain⟨x,hx⟩:∃x,z.looks[i]? =some x:=⟨z.looks[i]'(by omega),List.getElem?_eq_getElem (by omega)⟩
     have hRx:R[j]? =some x:=by rw[hR,List.getElem?_reverse (by omega),hi2];exact hx
     have hxu:(lksU z.looks)[i]? =some x.u:=by rw[List.getElem?_map,hx];rfl
     have hsn:=zED hRx
     have hTl:(R.take j).length≤12:=by rw[List.length_take];omega
     rw[show(z.looks.length:Int) - 1 - j=(i:Int) by omega]at hs
     generalize R.take j=T at*
     cases T with
     |nil=>
      refine zQ _ _ hs hst fun fr5=>?_
      refine k_seq (kQ (zD rfl (o_geq rfl rfl rfl (zA (k_cT rfl (kF (by omega)) (zr (k_seq (zS (wj [.plain,.read true,.plain,.read true,.plain,.plain,.read true,.lay,.plain,.plain,.plain] (by kernel_rfl) (by kernel_rfl) (by kernel_rfl) ?_)))))))))
      refine zC (kw rfl yq (zA rfl)) ?_
      refine zL rfl (kA sh25 rfl (zA rfl)) (zC (kw rfl yq (zA rfl)) ?_)
      refine zL rfl (kA sh25 rfl (zA rfl)) (zC (zD rfl (zA rfl)) (zC (zBE (u:=x.u) rfl ty25 rfl rfl (Int.natCast_nonneg _) hxu cl68 (zA rfl)) ?_))
      refine zL rfl (ya rfl rfl sh68 rfl (zA rfl)) ?_
      refine d_lay (es:=[U.agg [.int .i64 (Lk.yr x),.int .i64 (Lk.ky x),.int .i64 (Lk.rd x),.int .i64 (Lk.er x)]]) rfl ty25 ze68 cl68 rfl rfl rfl rfl rfl rfl rfl rfl ?_
      refine zC (zGU rfl zFG rfl rfl (by simp) (by simp) (by simp[zz,zj,oneU]) (by simp) (zA rfl)) ?_
      refine zC (kw rfl yq (zA rfl)) ?_
      refine zC (zBX rfl rfl sh25 rfl rfl (zA rfl)) ?_
      refine zBI ?_
      refine k_region (zD rfl ?_)
      refine zDt rfl rfl rfl (by unfold I64;omega) (zF rfl (zA ?_))
      exact⟨kk - 1,by omega,j+1,by omega,(by rw[hsn];rfl),.c4 rfl rfl rfl rfl (.cons rfl (.cons (congrArg (U.int .i64) (by omega)) (.nil rfl)))⟩
     |cons y T=>
      refine zQ _ _ hs hst fun fr5=>?_
      refine k_seq (kQ (zD rfl (o_geq rfl rfl rfl (zA (k_cT rfl (kF (by omega)) (zr (k_seq (zS (wj [.plain,.read true,.plain,.read true,.plain,.plain,.read true,.lay,.plain,.plain,.plain] (by kernel_rfl) (by kernel_rfl) (by kernel_rfl) ?_)))))))))
      refine zC (kw rfl yq (zA rfl)) ?_
      refine zL rfl (kA sh25 rfl (zA rfl)) (zC (kw rfl yq (zA rfl)) ?_)
      refine zL rfl (kA sh25 rfl (zA rfl)) (zC (zD rfl (zA rfl)) (zC (zBE (u:=x.u) rfl ty25 rfl rfl (Int.natCast_nonneg _) hxu cl68 (zA rfl)) ?_))
      refine zL rfl (ya rfl rfl sh68 rfl (zA rfl)) ?_
      refine d_lay (es:=[U.agg [.int .i64 (Lk.yr x),.int .i64 (Lk.ky x),.int .i64 (Lk.rd x),.int .i64 (Lk.er x)]]) rfl ty25 ze68 cl68 rfl rfl rfl rfl rfl rfl rfl rfl ?_
      refine zC (o_appendC 4 4 rfl zFG (isCp_head rfl) rfl rfl rfl (.inl rfl) (.inl rfl) rfl (by simp at hTl ⊢;omega) (zA rfl)) ?_
      refine zC (kw rfl yq (zA rfl)) ?_
      refine zC (zBX rfl rfl sh25 rfl rfl (zA rfl)) ?_
      refine zBI ?_
      refine k_region (zD rfl ?_)
      refine zDt rfl rfl rfl (by unfold I64;omega) (zF rfl (zA ?_))
      exact⟨kk - 1,by omega,j+1,by omega,(by rw[hsn,accK_snoc];rfl),.c4 rfl rfl rfl rfl (.cons rfl (.cons (congrArg (U.int .i64) (by omega)) (.nil rfl)))⟩
    ·obtain rfl:j=z.looks.length:=by omega
     rw[List.take_of_length_le (by omega)]at hst
     refine zQ _ _ hs hst fun fr5=>?_
     obtain⟨k,hk9⟩:∃k,k=n1 % (z.keys.length:Int):=⟨_,rfl⟩
     obtain⟨y,hy9⟩:∃y,y=n2 % (z.yrs+1):=⟨_,rfl⟩
     have q40a:=ret40 (orc:=orc) hi n1 z.keys.length (by omega)
     have q40b:=ret40 (orc:=orc) hi n2 (z.yrs+1) (by omega)
     rw[←hk9]at q40a
     rw[←hy9]at q40b
     have hkk:0≤k∧k<z.keys.length:=by
      have h1:=Int.emod_nonneg n1 (show(z.keys.length:Int)≠0 by omega)
      have h2:=Int.emod_lt_of_pos n1 (show 0<(z.keys.length:Int) by omega)
      omega
     have hyy:0≤y∧y≤z.yrs:=by
      have h1:=Int.emod_nonneg n2 (show z.yrs+1≠0 by omega)
      have h2:=Int.emod_lt_of_pos n2 (show 0<z.yrs+1 by omega)
      omega
     have hlaw:=more_law h (by omega) mo hkk hyy
     have hsame:=was_same (w:=z.lks R) h (lks_ok h (by omega) (fun x hx=>by rw[hR]at hx;exact List.mem_reverse.1 hx)) rfl rfl (fun k r _=>⟨fun hr=>lks_row hr (fun x hx _=>by rw[hR]at hx;exact List.mem_reverse.1 hx),fun hr=>⟨hr.b,hr.g,fun x hx hk=>hr.l x (by show x∈R;rw[hR];exact List.mem_reverse.2 hx) hk⟩⟩) hkk hyy
     have qa:=ret19 (orc:=orc) hi z k y
     have qb:=ret19 (orc:=orc) hi (z.lks (z.looks++[mo])) k y
     have qc:=ret19 (orc:=orc) hi (z.lks R) k y
     have qb:RetP Tryz.prog is orc 19 [.agg (lkC z (.lst .ro 4 (lksU z.looks++[mo.u]))),.int .i64 k,.int .i64 y] (.tup [spU (wasR (z.lks (z.looks++[mo])) k y),.int .i64 (wasE (z.lks (z.looks++[mo])) k y)]):=by
      rw[show lksU z.looks++[mo.u]=lksU (z.looks++[mo]) by unfold lksU;rw[List.map_append];rfl]
      exact qb
     have qc:RetP Tryz.prog is orc 19 [.agg (lkC z (.lst .ro 4 (lksU R))),.int .i64 k,.int .i64 y] (.tup [spU (wasR (z.lks R) k y),.int .i64 (wasE (z.lks R) k y)]):=qc
     rw[hsame.1,hsame.2]at qc
     generalize wasE (z.lks (z.looks++[mo])) k y=f at*
     generalize wasR (z.lks (z.looks++[mo])) k y=b at*
     generalize wasE z k y=e at*
     generalize wasR z k y=a at*
     have k1:=spn_ne a a
     rw[kF rfl]at k1
     have k2:decide (e≠e)=false:=kG (fun h=>h rfl)
     have leb:UW (.l [.agg (lkC z (.lst .own 4 (lksU z.looks++[mo.u]))),.int .i64 k,.int .i64 y]) (.l [.agg (lkC z (.lst .ro 4 (lksU z.looks++[mo.u]))),.int .i64 k,.int .i64 y]):=.lcons _ _ _ _ (.agg _ _ (.lcons _ _ _ _ (.refl _) (.lcons _ _ _ _ (.refl _) (.lcons _ _ _ _ (.refl _) (.lcons _ _ _ _ (.refl _) (.lcons _ _ _ _ (.ro _ _ _) (.lrefl _))))))) (.lrefl _)
     have lec:UW (.l [.agg (lkC z (accK R)),.int .i64 k,.int .i64 y]) (.l [.agg (lkC z (.lst .ro 4 (lksU R))),.int .i64 k,.int .i64 y]):=.lcons _ _ _ _ (.agg _ _ (.lcons _ _ _ _ (.refl _) (.lcons _ _ _ _ (.refl _) (.lcons _ _ _ _ (.refl _) (.lcons _ _ _ _ (.refl _) (.lcons _ _ _ _ (le_accK R) (.lrefl _))))))) (.lrefl _)
     clear hsame
     obtain⟨a1,a2⟩:=a
     obtain⟨b1,b2⟩:=b
     refine k_seq (kQ (zD rfl (o_geq rfl rfl rfl (zA (k_cF rfl (kG (by omega)) (wK (k_seq (wj [.plain,.read true,.plain,.read true,.read true,.read false,.plain,.read true,.plain,.read true,.plain,.plain,.plain,.plain] (by kernel_rfl) (by kernel_rfl) (by kernel_rfl) ?_))))))))
     refine zC (zBy rfl ty29 rfl rfl (by omega) (by omega) cl3 (zA rfl)) ?_
     refine zL rfl (kA sh3 rfl (zA rfl)) (zC (kw rfl yi (zA rfl)) ?_)
     refine zL rfl (kA sh22 rfl (zA rfl)) (zL rfl (yV rfl ty22 rfl (List.length_map _) (zA rfl)) ?_)
     refine yN rfl (q40a) (.int _ _) (.lrefl _) ?_
     refine zC (zBy rfl ty29 rfl rfl (by omega) (by omega) cl3 (zA rfl)) ?_
     refine zL rfl (kA sh3 rfl (zA rfl)) (zC (kw rfl wm (zA rfl)) ?_)
     refine zAF [(3,U.box 0 0),(4,U.box 1 0),(7,U.box 3 0),(8,U.box 4 0),(62,.int .i64 k),(64,.int .i64 n2),(65,U.box 0 0)] [] ([SB.box (Zt.cs z),SB.box [.int .i64 (Lk.yr mo),.int .i64 (Lk.ky mo),.int .i64 (Lk.rd mo),.int .i64 (Lk.er mo)],SB.box [.int .i64 n1,.int .i64 n2],SB.box (lkC z (U.lst Kd.own 4 (lksU (Zt.looks z)++[Lk.u mo]))),SB.box (lkC z (accK R))]) (.n7 rfl) rfl rfl fun fr=>?_
     refine zL rfl (kA sh3 rfl (zA rfl)) ?_
     refine zC (kz rfl (by unfold I64;omega) (zA rfl)) ?_
     refine zC (zd rfl (q40b) (.lrefl _) (zA rfl)) ?_
     refine zC (zF rfl (zA rfl)) ?_
     refine zC (zF rfl (zA rfl)) ?_
     refine zBI ?_
     refine zQ [(3,U.box 0 0),(4,U.box 1 0),(7,U.box 3 0),(8,U.box 4 0),(10,.int .i64 k),(11,.int .i64 y)] ([SB.box (Zt.cs z),SB.box [.int .i64 (Lk.yr mo),.int .i64 (Lk.ky mo),.int .i64 (Lk.rd mo),.int .i64 (Lk.er mo)],SB.box [.int .i64 n1,.int .i64 n2],SB.box (lkC z (U.lst Kd.own 4 (lksU (Zt.looks z)++[Lk.u mo]))),SB.box (lkC z (accK R))]) (.n6 rfl) rfl fun fr=>?_
     refine kQ (kB sh27 rfl (zD rfl (zD rfl (zd rfl (qa) (.lrefl _) (zD rfl (ku rfl (ku rfl (yF rfl ze35 ?_))))))))
     refine zU rfl rfl sh35 rfl rfl rfl rfl rfl ?_
     refine zF rfl (zA ?_)
     refine zQ [(4,U.box 1 0),(7,U.box 3 0),(8,U.box 4 0),(10,.int .i64 k),(11,.int .i64 y),(12,U.box 5 0),(13,.int .i64 e)] ([SB.box (Zt.cs z),SB.box [.int .i64 (Lk.yr mo),.int .i64 (Lk.ky mo),.int .i64 (Lk.rd mo),.int .i64 (Lk.er mo)],SB.box [.int .i64 n1,.int .i64 n2],SB.box (lkC z (U.lst Kd.own 4 (lksU (Zt.looks z)++[Lk.u mo]))),SB.box (lkC z (accK R)),SB.box [.int .i64 (Prod.fst (a1,a2)),.int .i64 (Prod.snd (a1,a2))]]) (.n7 rfl) rfl fun fr=>?_
     refine kQ (kB sh27 rfl (zD rfl (zD rfl (zd rfl qb leb ?_))))
     refine zD rfl (ku rfl (ku rfl (yF rfl ze35 ?_)))
     refine zU rfl rfl sh35 rfl rfl rfl rfl rfl ?_
     refine zF rfl (zA ?_)
     refine zQ [(4,U.box 1 0),(8,U.box 4 0),(10,.int .i64 k),(11,.int .i64 y),(12,U.box 5 0),(13,.int .i64 e),(14,U.box 6 0),(15,.int .i64 f)] ([SB.box (Zt.cs z),SB.box [.int .i64 (Lk.yr mo),.int .i64 (Lk.ky mo),.int .i64 (Lk.rd mo),.int .i64 (Lk.er mo)],SB.box [.int .i64 n1,.int .i64 n2],SB.box (lkC z (U.lst Kd.own 4 (lksU (Zt.looks z)++[Lk.u mo]))),SB.box (lkC z (accK R)),SB.box [.int .i64 (Prod.fst (a1,a2)),.int .i64 (Prod.snd (a1,a2))],SB.box [.int .i64 (Prod.fst (b1,b2)),.int .i64 (Prod.snd (b1,b2))]]) (.n8 rfl) rfl fun fr=>?_
     refine kQ (kB sh27 rfl (zD rfl (zD rfl (zd rfl qc lec ?_))))
     refine zD rfl (ku rfl (ku rfl (yF rfl ze35 ?_)))
     refine zU rfl rfl sh35 rfl rfl rfl rfl rfl ?_
     refine zF rfl (zA ?_)
     refine zQ [(4,U.box 1 0),(10,.int .i64 k),(12,U.box 5 0),(13,.int .i64 e),(14,U.box 6 0),(15,.int .i64 f),(16,U.box 7 0),(17,.int .i64 e)] ([SB.box (Zt.cs z),SB.box [.int .i64 (Lk.yr mo),.int .i64 (Lk.ky mo),.int .i64 (Lk.rd mo),.int .i64 (Lk.er mo)],SB.box [.int .i64 n1,.int .i64 n2],SB.box (lkC z (U.lst Kd.own 4 (lksU (Zt.looks z)++[Lk.u mo]))),SB.box (lkC z (accK R)),SB.box [.int .i64 (Prod.fst (a1,a2)),.int .i64 (Prod.snd (a1,a2))],SB.box [.int .i64 (Prod.fst (b1,b2)),.int .i64 (Prod.snd (b1,b2))],SB.box [.int .i64 (Prod.fst (a1,a2)),.int .i64 (Prod.snd (a1,a2))]]) (.n8 rfl) rfl fun fr=>?_
     refine k_seq (kQ (kB sh35 rfl (kB sh35 rfl (zFM rfl rfl rfl rfl rfl k1 ?_))))
     refine zD rfl (kf rfl (zD rfl (kf rfl (zD rfl (kf rfl (kr rfl (kD rfl ?_)))))))
     refine zA (k_cF rfl k2 ?_)
     refine zr ?_
     by_cases hf:f=0
     ·subst hf
      obtain⟨rfl,hu,hne⟩:=hlaw.2 rfl
      have q42:=ret42 (orc:=orc) hi b1 b2 a1 a2
      simp only at hu
      rw[kF hu.1,kF hu.2]at q42
      have k3:=spn_eq (a1,a2) (b1,b2)
      by_cases hm:mo.ky=k
      ·have k4:=kF hm
       refine k_seq (kQ (zD rfl (kr rfl (zA (k_cF rfl rfl ?_)))))
       refine zr (kQ (zD rfl (ks rfl (zD rfl (kf rfl (kB sh35 rfl (kf rfl (kB sh35 rfl (kf rfl (zd rfl (q42) (.lrefl _) (kE rfl ?_)))))))))))
       refine zD rfl (kf rfl (kw rfl zEt ?_))
       refine zk [(10,.int .i64 k),(12,U.box 5 0),(14,U.box 6 0),(121,U.bool (Bool.true&&Bool.true)),(122,U.box 1 1)] [] ([SB.box (Zt.cs z),SB.box [.int .i64 (Lk.yr mo),.int .i64 (Lk.ky mo),.int .i64 (Lk.rd mo),.int .i64 (Lk.er mo)],SB.box [.int .i64 n1,.int .i64 n2],SB.box (lkC z (U.lst Kd.own 4 (lksU (Zt.looks z)++[Lk.u mo]))),SB.box (lkC z (accK R)),SB.box [.int .i64 (Prod.fst (a1,a2)),.int .i64 (Prod.snd (a1,a2))],SB.box [.int .i64 (Prod.fst (b1,b2)),.int .i64 (Prod.snd (b1,b2))],SB.box [.int .i64 (Prod.fst (a1,a2)),.int .i64 (Prod.snd (a1,a2))]]) (.n5 rfl) rfl rfl fun fr=>?_
       refine kf rfl ?_
       refine zk [(10,.int .i64 k),(12,U.box 5 0),(14,U.box 6 0),(121,U.bool (Bool.true&&Bool.true)),(122,U.box 1 1)] [] ([SB.box (Zt.cs z),SB.box [.int .i64 (Lk.yr mo),.int .i64 (Lk.ky mo),.int .i64 (Lk.rd mo),.int .i64 (Lk.er mo)],SB.box [.int .i64 n1,.int .i64 n2],SB.box (lkC z (U.lst Kd.own 4 (lksU (Zt.looks z)++[Lk.u mo]))),SB.box (lkC z (accK R)),SB.box [.int .i64 (Prod.fst (a1,a2)),.int .i64 (Prod.snd (a1,a2))],SB.box [.int .i64 (Prod.fst (b1,b2)),.int .i64 (Prod.snd (b1,b2))],SB.box [.int .i64 (Prod.fst (a1,a2)),.int .i64 (Prod.snd (a1,a2))]]) (.n5 rfl) rfl rfl fun fr=>?_
       refine kA sh3 rfl (kf rfl (zD rfl (kf rfl (ks rfl (kf rfl (zD rfl (kg rfl (by assumption) (kg rfl (by assumption) (kg rfl (by assumption) (kf rfl (wI rfl rfl (by assumption) ?_)))))))))))
       refine kE rfl ?_
       refine zk [(131,.bool true)] [] ([SB.box (Zt.cs z),SB.box [.int .i64 (Lk.yr mo),.int .i64 (Lk.ky mo),.int .i64 (Lk.rd mo),.int .i64 (Lk.er mo)],SB.box [.int .i64 n1,.int .i64 n2],SB.box (lkC z (U.lst Kd.own 4 (lksU (Zt.looks z)++[Lk.u mo]))),SB.box (lkC z (accK R)),SB.box [.int .i64 (Prod.fst (a1,a2)),.int .i64 (Prod.snd (a1,a2))],SB.box [.int .i64 (Prod.fst (b1,b2)),.int .i64 (Prod.snd (b1,b2))],SB.box [.int .i64 (Prod.fst (a1,a2)),.int .i64 (Prod.snd (a1,a2))]]) (.n1 rfl) rfl rfl fun fr=>?_
       refine zD rfl (kf rfl (zd rfl (r21) (.lrefl _) (kE rfl ?_)))
       refine zF rfl (zA (yJ ?_))
       refine⟨.inr rfl,_,.cons _ _ _ _ (.tmp 6) .nil,?_⟩
       exact .refl _
      ·have k4:=kG hm
       rw[kF (hne hm)]at k3
       refine k_seq (kQ (zD rfl (kr rfl (zA (k_cF rfl rfl ?_)))))
       refine zr (kQ (zD rfl (ks rfl (zD rfl (kf rfl (kB sh35 rfl (kf rfl (kB sh35 rfl (kf rfl (zd rfl (q42) (.lrefl _) (kE rfl ?_)))))))))))
       refine zD rfl (kf rfl (kw rfl zEt ?_))
       refine zk [(10,.int .i64 k),(12,U.box 5 0),(14,U.box 6 0),(121,U.bool (Bool.true&&Bool.true)),(122,U.box 1 1)] [] ([SB.box (Zt.cs z),SB.box [.int .i64 (Lk.yr mo),.int .i64 (Lk.ky mo),.int .i64 (Lk.rd mo),.int .i64 (Lk.er mo)],SB.box [.int .i64 n1,.int .i64 n2],SB.box (lkC z (U.lst Kd.own 4 (lksU (Zt.looks z)++[Lk.u mo]))),SB.box (lkC z (accK R)),SB.box [.int .i64 (Prod.fst (a1,a2)),.int .i64 (Prod.snd (a1,a2))],SB.box [.int .i64 (Prod.fst (b1,b2)),.int .i64 (Prod.snd (b1,b2))],SB.box [.int .i64 (Prod.fst (a1,a2)),.int .i64 (Prod.snd (a1,a2))]]) (.n5 rfl) rfl rfl fun fr=>?_
       refine kf rfl ?_
       refine zk [(10,.int .i64 k),(12,U.box 5 0),(14,U.box 6 0),(121,U.bool (Bool.true&&Bool.true)),(122,U.box 1 1)] [] ([SB.box (Zt.cs z),SB.box [.int .i64 (Lk.yr mo),.int .i64 (Lk.ky mo),.int .i64 (Lk.rd mo),.int .i64 (Lk.er mo)],SB.box [.int .i64 n1,.int .i64 n2],SB.box (lkC z (U.lst Kd.own 4 (lksU (Zt.looks z)++[Lk.u mo]))),SB.box (lkC z (accK R)),SB.box [.int .i64 (Prod.fst (a1,a2)),.int .i64 (Prod.snd (a1,a2))],SB.box [.int .i64 (Prod.fst (b1,b2)),.int .i64 (Prod.snd (b1,b2))],SB.box [.int .i64 (Prod.fst (a1,a2)),.int .i64 (Prod.snd (a1,a2))]]) (.n5 rfl) rfl rfl fun fr=>?_
       refine kA sh3 rfl (kf rfl (zD rfl (kf rfl (ks rfl (kf rfl (zD rfl (kh rfl (by assumption) (kB sh35 rfl (kh rfl (by assumption) (kB sh35 rfl (kh rfl (by assumption) (zFM rfl rfl rfl rfl rfl k3 ?_))))))))))))
       refine kf rfl (zAx rfl rfl (by assumption) ?_)
       refine kE rfl ?_
       refine zk [(131,.bool true)] [] ([SB.box (Zt.cs z),SB.box [.int .i64 (Lk.yr mo),.int .i64 (Lk.ky mo),.int .i64 (Lk.rd mo),.int .i64 (Lk.er mo)],SB.box [.int .i64 n1,.int .i64 n2],SB.box (lkC z (U.lst Kd.own 4 (lksU (Zt.looks z)++[Lk.u mo]))),SB.box (lkC z (accK R)),SB.box [.int .i64 (Prod.fst (a1,a2)),.int .i64 (Prod.snd (a1,a2))],SB.box [.int .i64 (Prod.fst (b1,b2)),.int .i64 (Prod.snd (b1,b2))],SB.box [.int .i64 (Prod.fst (a1,a2)),.int .i64 (Prod.snd (a1,a2))]]) (.n1 rfl) rfl rfl fun fr=>?_
       refine zD rfl (kf rfl (zd rfl (r21) (.lrefl _) (kE rfl ?_)))
       refine zF rfl (zA (yJ ?_))
       refine⟨.inr rfl,_,.cons _ _ _ _ (.tmp 6) .nil,?_⟩
       exact .refl _
     ·obtain⟨hf2,hb⟩:=hlaw.1 hf
      cases hb
      have q41:=ret41 (orc:=orc) hi 0 0
      have k3:=spn_eq (0,0) (0,0)
      rw[kF rfl]at k3
      have k4:=kF hf
      have k4:decide (f≠0)=true:=kF hf
      by_cases h40:f=40
      ·have k5:=kF h40
       refine k_seq (kQ (zD rfl (kr rfl (zA (k_cT rfl (by assumption) (k_seq (wj [.plain,.plain,.plain,.plain,.plain,.plain,.plain,.read true,.read false,.plain,.plain,.plain,.plain,.plain,.plain] (by kernel_rfl) (by kernel_rfl) (by kernel_rfl) ?_)))))))
       refine zC (zD rfl (zA rfl)) (zC (ks rfl (zA rfl)) ?_)
       refine zC (zD rfl (zA rfl)) (km rfl (by assumption) ?_)
       refine km rfl (by assumption) ?_
       refine zC (wI rfl rfl (by assumption) (zA rfl)) ?_
       refine zC (zD rfl (zA rfl)) (kl rfl (zL rfl (kB sh35 rfl (zA rfl)) ?_))
       refine kl rfl (yN rfl (q41) (ze _ _) (.lrefl _) ?_)
       refine zAF [(106,.bool true),(107,U.agg [.int .i64 (Prod.fst ((0:Int),(0:Int))),.int .i64 (Prod.snd ((0:Int),(0:Int)))]),(108,yQ (0:Int) (0:Int))] [] ([SB.box (Zt.cs z),SB.box [.int .i64 (Lk.yr mo),.int .i64 (Lk.ky mo),.int .i64 (Lk.rd mo),.int .i64 (Lk.er mo)],SB.box [.int .i64 n1,.int .i64 n2],SB.box (lkC z (U.lst Kd.own 4 (lksU (Zt.looks z)++[Lk.u mo]))),SB.box (lkC z (accK R)),SB.box [.int .i64 (Prod.fst (a1,a2)),.int .i64 (Prod.snd (a1,a2))],SB.box [.int .i64 (Prod.fst ((0:Int),(0:Int))),.int .i64 (Prod.snd ((0:Int),(0:Int)))],SB.box [.int .i64 (Prod.fst (a1,a2)),.int .i64 (Prod.snd (a1,a2))]]) (.n3 rfl) rfl rfl fun fr=>?_
       refine kl rfl (zC (zFM rfl rfl rfl rfl rfl k3 (zA rfl)) ?_)
       refine zC (kE rfl (zA rfl)) ?_
       refine zC (zD rfl (zA rfl)) (kl rfl (zC (zd rfl (r21) (.lrefl _) (zA rfl)) ?_))
       refine zC (kE rfl (zA rfl)) ?_
       refine zC (zF rfl (zA rfl)) ?_
       refine zBI ?_
       refine yJ ?_
       refine⟨.inr rfl,_,.cons _ _ _ _ (.tmp 6) .nil,?_⟩
       exact .refl _
      ·have k5:=kG h40
       have k6:=kF (hf2.resolve_left h40)
       refine k_seq (kQ (zD rfl (kr rfl (zA (k_cT rfl (by assumption) (k_seq (wj [.plain,.plain,.plain,.plain,.plain,.plain,.plain,.read true,.read false,.plain,.plain,.plain,.plain,.plain,.plain] (by kernel_rfl) (by kernel_rfl) (by kernel_rfl) ?_)))))))
       refine zC (zD rfl (zA rfl)) (zC (ks rfl (zA rfl)) ?_)
       refine zC (zD rfl (zA rfl)) (kn rfl (by assumption) ?_)
       refine zC (zD rfl (zA rfl)) (kn rfl (by assumption) ?_)
       refine zC (ks rfl (zA rfl)) ?_
       refine zC (zAx rfl rfl (by assumption) (zA rfl)) ?_
       refine zC (zD rfl (zA rfl)) (kn rfl (by assumption) ?_)
       refine zL rfl (kB sh35 rfl (zA rfl)) ?_
       refine kn rfl (by assumption) ?_
       refine yN rfl (q41) (ze _ _) (.lrefl _) ?_
       refine zAF [(106,U.bool (decide (f=(42:Int)))),(107,U.agg [.int .i64 (Prod.fst ((0:Int),(0:Int))),.int .i64 (Prod.snd ((0:Int),(0:Int)))]),(108,yQ (0:Int) (0:Int))] [] ([SB.box (Zt.cs z),SB.box [.int .i64 (Lk.yr mo),.int .i64 (Lk.ky mo),.int .i64 (Lk.rd mo),.int .i64 (Lk.er mo)],SB.box [.int .i64 n1,.int .i64 n2],SB.box (lkC z (U.lst Kd.own 4 (lksU (Zt.looks z)++[Lk.u mo]))),SB.box (lkC z (accK R)),SB.box [.int .i64 (Prod.fst (a1,a2)),.int .i64 (Prod.snd (a1,a2))],SB.box [.int .i64 (Prod.fst ((0:Int),(0:Int))),.int .i64 (Prod.snd ((0:Int),(0:Int)))],SB.box [.int .i64 (Prod.fst (a1,a2)),.int .i64 (Prod.snd (a1,a2))]]) (.n3 rfl) rfl rfl fun fr=>?_
       refine kn rfl (by assumption) ?_
       refine zC (zFM rfl rfl rfl rfl rfl k3 (zA rfl)) ?_
       refine zC (wI rfl rfl (by assumption) (zA rfl)) ?_
       refine zC (zD rfl (zA rfl)) (kl rfl (zC (zd rfl (r21) (.lrefl _) (zA rfl)) ?_))
       refine zC (kE rfl (zA rfl)) ?_
       refine zC (zF rfl (zA rfl)) ?_
       refine zBI ?_
       refine yJ ?_
       refine⟨.inr rfl,_,.cons _ _ _ _ (.tmp 6) .nil,?_⟩
       exact .refl _
end Go.Proofs.YtpckmojdekdbbaaGreat.settles
