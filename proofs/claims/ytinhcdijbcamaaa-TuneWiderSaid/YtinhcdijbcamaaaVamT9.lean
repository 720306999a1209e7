import Derived.Test.YtinhcdijbcamaaaVamT8
set_option linter.unusedVariables false
set_option linter.unusedSimpArgs false
set_option linter.constructorNameAsVariable false
namespace Go.Proofs.Ytinhcdijbcamaaa.tuneWider
open Vam
section
variable {t:Ts}{J:List Jn}{v x:Int}
abbrev TunT(t:Ts)(J:List Jn)(p:Int→Int):Prop:=Tun J (hloT t) (hhiT t) t.heard.length p
def TunE(t:Ts)(J:List Jn):Prop:=∃p,TunT t J p
theorem TOk.sok(h:TOk t):SOk t (zY t):=by
 have hv:=(zBD t).2 h
 unfold wN at hv
 rw[Bool.and_eq_true,Bool.and_eq_true,Bool.and_eq_true,Bool.and_eq_true]at hv
 obtain⟨_,hB,hC,hD,_⟩:=hv
 have hj:=joins_ok h.n8 hB hC hD
 exact⟨h.n1,h.n8,h.hd,fun j hj'=>(hj j hj').1,fun j hj'=>(hj j hj').2,by have:=zGQ h.sh;omega,h.ac⟩
def InH(t:Ts)(v x:Int):Prop:=hloT t v≤x∧x≤hhiT t v
theorem ut_some{s:Bool}{i:Nat}(h:utI t J s v=some i):i<(hhiT t v+1 - hloT t v).toNat∧canS t J v (pI s (hloT t v) (hhiT t v) i) (-1)=true∧∀j,j<i→canS t J v (pI s (hloT t v) (hhiT t v) j) (-1)=false:=by
 unfold utI at h
 obtain⟨h1,xs,ys,h2,h3⟩:=List.find?_eq_some_iff_append.1 h
 have hm:i∈List.range (hhiT t v+1 - hloT t v).toNat:=by rw[h2];simp
 have hlt:=List.mem_range.1 hm
 have hlen:xs.length=i:=by
  have:=congrArg (fun l=>l[xs.length]?) h2
  rw[List.getElem?_append_right (Nat.le_refl _),Nat.sub_self]at this
  obtain⟨hl,he⟩:=List.getElem?_eq_some_iff.1 this
  rw[List.getElem_range]at he;exact he
 refine⟨hlt,h1,fun j hj=>?_⟩
 have hin:j∈xs:=by
  have h5:(List.range (hhiT t v+1 - hloT t v).toNat)[j]? =some j:=List.getElem?_range (by omega)
  rw[h2,List.getElem?_append_left (by omega)]at h5
  exact List.mem_of_getElem? h5
 have:=h3 j hin
 simpa using this
theorem pI_in{s:Bool}{i:Nat}(h:i<(hhiT t v+1 - hloT t v).toNat):InH t v (pI s (hloT t v) (hhiT t v) i):=by
 unfold InH;cases s<;>unfold pI<;>simp only<;>omega
def pX(s:Bool)(lo hi x:Int):Nat:=match s with|false=>(x - lo).toNat|true=>(hi - x).toNat
theorem pI_pX{s:Bool}{lo hi x:Int}(h:lo≤x∧x≤hi):pX s lo hi x<(hi+1 - lo).toNat∧pI s lo hi (pX s lo hi x)=x:=by cases s<;>unfold pI pX<;>simp only<;>omega
theorem ut_none{s:Bool}(h:utI t J s v=none):∀x,InH t v x→canS t J v x (-1)=false:=by
 intro x hx
 unfold utI at h
 rw[List.find?_eq_none]at h
 obtain⟨h1,h2⟩:=pI_pX (s:=s) hx
 have:=h _ (List.mem_range.2 h1)
 rw[h2]at this
 simpa using this
theorem zDl(h:SOk t J):tunB t J=true↔TunE t J:=by
 unfold TunE
 rw[←h.jn.tunable_iff]
 unfold tunB
 rw[List.all_eq_true]
 constructor
 ·intro h1 v hv0 hv1
  have:=h1 v.toNat (List.mem_range.2 (by omega))
  rw[show((v.toNat:Nat):Int)=v by omega]at this
  obtain⟨i,hi⟩:=Option.isSome_iff_exists.1 this
  obtain⟨a,b,_⟩:=ut_some hi
  have:=pI_in (s:=false) a
  exact⟨_,this.1,this.2,b⟩
 ·intro h1 v hv
  obtain⟨x,a,b,c⟩:=h1 v (by omega) (by have:=List.mem_range.1 hv;omega)
  cases hu:utI t J false v with
  |some i=>rfl
  |none=>
   have:=ut_none hu x ⟨a,b⟩
   rw[show canS t J (v:Int) x (-1)=true from c]at this;cases this
theorem can_t(h:SOk t J)(ht:TunE t J)(hv:0≤v∧v<(t.heard.length:Int))(hx:InH t v x):canS t J v x (-1)=true↔ ∃p,TunT t J p∧p v=x:=h.jn.can_iff ht hv hx
def Least(t:Ts)(J:List Jn)(f:(Int→Int)→Int)(m:Int):Prop:=(∃p,TunT t J p∧f p=m)∧∀p,TunT t J p→m≤f p
def Most(t:Ts)(J:List Jn)(f:(Int→Int)→Int)(m:Int):Prop:=(∃p,TunT t J p∧f p=m)∧∀p,TunT t J p→f p≤m
theorem ut_ex(h:SOk t J)(ht:TunE t J)(s:Bool)(hv:0≤v∧v<(t.heard.length:Int)):∃i,utI t J s v=some i:=by
 cases hu:utI t J s v with
 |some i=>exact⟨i,rfl⟩
 |none=>
  obtain⟨p,hp⟩:=ht
  have hin:InH t v (p v):=hp.1 v hv.1 hv.2
  have:=ut_none hu _ hin
  rw[(can_t h ⟨p,hp⟩ hv hin).2 ⟨p,hp,rfl⟩]at this;cases this
theorem ut_low(h:SOk t J)(ht:TunE t J)(hv:0≤v∧v<(t.heard.length:Int)):Least t J (fun p=>p v) (utP t J false v):=by
 obtain⟨i,hi⟩:=ut_ex h ht false hv
 obtain⟨a,b,c⟩:=ut_some hi
 have hin:=pI_in (s:=false) a
 have e:utP t J false v=hloT t v+i:=by unfold utP;rw[hi];rfl
 refine⟨?_,fun p hp=>?_⟩
 ·rw[e];exact(can_t h ht hv hin).1 b
 ·rw[e]
  have hpv:InH t v (p v):=hp.1 v hv.1 hv.2
  by_cases hlt:hloT t v+i≤p v
  ·exact hlt
  ·exfalso
   have:=c (p v - hloT t v).toNat (by have:=hpv.1;omega)
   rw[show pI false (hloT t v) (hhiT t v) (p v - hloT t v).toNat=p v by unfold pI;simp only;have:=hpv.1;omega,(can_t h ht hv hpv).2 ⟨p,hp,rfl⟩]at this
   cases this
theorem ut_high(h:SOk t J)(ht:TunE t J)(hv:0≤v∧v<(t.heard.length:Int)):Most t J (fun p=>p v) (utP t J true v):=by
 obtain⟨i,hi⟩:=ut_ex h ht true hv
 obtain⟨a,b,c⟩:=ut_some hi
 have hin:=pI_in (s:=true) a
 have e:utP t J true v=hhiT t v - i:=by unfold utP;rw[hi];rfl
 refine⟨?_,fun p hp=>?_⟩
 ·rw[e];exact(can_t h ht hv hin).1 b
 ·rw[e]
  have hpv:InH t v (p v):=hp.1 v hv.1 hv.2
  by_cases hlt:p v≤hhiT t v - i
  ·exact hlt
  ·exfalso
   have:=c (hhiT t v - p v).toNat (by have:=hpv.2;omega)
   rw[show pI true (hloT t v) (hhiT t v) (hhiT t v - p v).toNat=p v by unfold pI;simp only;have:=hpv.2;omega,(can_t h ht hv hpv).2 ⟨p,hp,rfl⟩]at this
   cases this
theorem in_pos(h:SOk t J){a x:Int}(ha:0≤a∧a<(t.heard.length:Int))(hx:InH t a x):1≤x∧x≤4000:=by
 obtain⟨q,_,e1,e2,hq⟩:=h.key ha
 unfold InH at hx
 rw[e1,e2]at hx
 omega
end
section
variable {is:FuncId→Bool}{orc:Known}
theorem by26:Program.bytesOf Try.prog 26=16:=by kernel_rfl
theorem ap22_22:AppT Try.prog 22 22 26 2 16 ((.cons (.int .i64 0) (.cons (.int .i64 0) .nil)):V):=⟨ty22,⟨_,ty22⟩,cl26,by decide,by26,ze26,rfl⟩
theorem ze84:ya Try.prog 84=some ((.cons .nils (.cons .nils (.cons .nils (.cons (.int .i64 0) (.cons (.int .i64 0) (.cons .nils .nil)))))):V):=by kernel_rfl
variable {t:Ts}{J:List Jn}{v x:Int}
end
section
variable {is:FuncId→Bool}{orc:Known}
theorem pl84:zGA Try.prog 84=some [(0,5),(5,1)]:=by kernel_rfl
noncomputable def b72:Code:=(Try.f72.body).getD .skip
theorem body72:bodyOf Try.prog 72=some (7,b72,[.cell 2 84]):=by kernel_rfl
theorem pure72:pureFn Try.prog 72=true:=by kernel_rfl
noncomputable def b59:Code:=(Try.f59.body).getD .skip
theorem body59:bodyOf Try.prog 59=some (40,b59,[.cell 4 84,.tmp 5]):=by kernel_rfl
theorem pure59:pureFn Try.prog 59=true:=by kernel_rfl
variable {t:Ts}{J:List Jn}{v x:Int}
theorem ret72(hi:Off is)(h:Sh t):RetP Try.prog is orc 72 [t.u] (.agg (setC t (zY t))):=by
 have q51:=ret51 (orc:=orc) hi h
 refine yV body72 pure72 (hi 72 (by decide)) rfl rfl (zAr (zCo t 4)) (.inl (zDg _ _ _)) ?_
 refine kQ (yO rfl rfl (zS rfl ze84 ?_))
 refine zA ?_
 refine zM [(1,U.box 0 0),(2,U.box 1 0)] ([SB.box t.cs,SB.box [.lst .full 0 [],.lst .full 0 [],.lst .full 0 [],.int .i64 0,.int .i64 0,.lst .full 0 []]]) (.cons rfl (.cons rfl (.nil rfl))) rfl fun fr=>?_
 refine k_seq (zAS [.read true,.read true,.quiet,.plain,.plain] (by kernel_rfl) (by kernel_rfl) (by kernel_rfl) ?_)
 refine yE rfl (zI rfl rfl rfl sh28 rfl (zA rfl)) ?_
 refine yE rfl (zI rfl rfl rfl sh28 rfl (zA rfl)) ?_
 refine zEq rfl q51 (.lrefl _) ?_
 refine zG (yK rfl ze84 pl84 rfl rfl (zA rfl)) ?_
 refine zG (zJ rfl rfl sh84 rfl rfl rfl rfl rfl (zA rfl)) ?_
 refine zBb ?_
 refine zg ?_
 refine⟨.inr rfl,_,.cons _ _ _ _ (.cellN 2 84 _ _ _ _ rfl rfl sh84 rfl) .nil,?_⟩
 exact .refl _
def zGs(t:Ts)(l:List Int):Bool:=l.all fun k=>decide (0≤k)&&decide (k<(t.heard.length:Int))
noncomputable def askE(t:Ts)(l:List Int):Int:=if wN t=true then(if zGs t l=true then(if tunB t (zY t)=true then 0 else 12)else 11)else 10
abbrev z6:List U:=[.lst .full 0 [],.lst .full 0 [],.lst .full 0 [],.int .i64 0,.int .i64 0,.lst .full 0 []]
theorem dat_z6(k:Nat):Dat (k+2) (.agg z6):=.agg _ _ fun c hc=>by
 simp only[List.mem_cons,List.not_mem_nil,or_false]at hc
 rcases hc with rfl|rfl|rfl|rfl|rfl|rfl<;>first|exact .int _ _ _|exact .lst _ _ _ _ (fun h=>by cases h) (fun c hc=>by cases hc)
noncomputable def askC(t:Ts)(l:List Int):List U:=if askE t l=0 then setC t (zY t)else z6
theorem dat_askC(t:Ts)(l:List Int)(k:Nat):Dat (k+4) (.agg (askC t l)):=by
 unfold askC
 split
 ·exact zDg _ _ _
 ·exact dat_z6 _
set_option maxHeartbeats 8000000 in
theorem ret59(hi:Off is)(t:Ts)(l:List Int)(hl:l.length≤4):RetP Try.prog is orc 59 [t.u,.lst .ro 1 (yG l)] (.tup [.agg (askC t l),.int .i64 (askE t l)]):=by
 have q17:=ret17 (orc:=orc) hi t
 refine yV body59 pure59 (hi 59 (by decide)) rfl rfl (wH (zCo t 4) (zEL 6 .ro (fun h=>by cases h) 1 l)) (.inr ⟨_,rfl,wH (dat_askC t l 3) (.int _ _ _)⟩) ?_
 cases hv:wN t with
 |false=>
  have e:askE t l=10:=by unfold askE;rw[hv];rfl
  have e2:askC t l=z6:=by unfold askC;rw[e];rfl
  rw[hv,if_neg (by decide)]at q17
  rw[e,e2]
  refine kQ (yO rfl rfl (zS rfl ze84 ?_))
  refine zC rfl (zA ?_)
  refine zM [(1,.lst .ro 1 (yG l)),(2,U.box 0 0),(4,U.box 1 0)] ([SB.box t.cs,SB.box [.lst .full 0 [],.lst .full 0 [],.lst .full 0 [],.int .i64 0,.int .i64 0,.lst .full 0 []]]) (.cons rfl (.cons rfl (.cons rfl (.nil rfl)))) rfl fun fr=>?_
  refine k_seq (kQ (zI rfl rfl rfl sh28 rfl (zR rfl (q17) (.lrefl _) (zC rfl (zA (kQ (zB rfl (zAw rfl rfl rfl ?_))))))))
  refine zA (k_cT rfl rfl ?_)
  refine kQ (yK rfl ze84 pl84 rfl rfl ?_)
  refine zB rfl (zJ rfl rfl sh84 rfl rfl rfl rfl rfl ?_)
  refine zC rfl (zA (zg ?_))
  refine⟨.inr rfl,_,.cons _ _ _ _ (.cellN 4 84 _ _ _ _ rfl rfl sh84 rfl) (.cons _ _ _ _ (.tmp 5) .nil),?_⟩
  exact .refl _
 |true=>
  have hok:=(zBD t).1 hv
  have hsok:=hok.sok
  rw[hv,if_pos rfl]at q17
  have q72:=ret72 (orc:=orc) hi hok.sh
  have q65:=ret65 (orc:=orc) hi hsok
  refine kQ (yO rfl rfl (zS rfl ze84 ?_))
  refine zC rfl (zA ?_)
  refine zM [(1,.lst .ro 1 (yG l)),(2,U.box 0 0),(4,U.box 1 0)] ([SB.box t.cs,SB.box [.lst .full 0 [],.lst .full 0 [],.lst .full 0 [],.int .i64 0,.int .i64 0,.lst .full 0 []]]) (.cons rfl (.cons rfl (.cons rfl (.nil rfl)))) rfl fun fr=>?_
  refine k_seq (kQ (zI rfl rfl rfl sh28 rfl (zR rfl (q17) (.lrefl _) (zC rfl (zA (kQ (zB rfl (zAw rfl rfl rfl ?_))))))))
  refine zA (k_cF rfl rfl ?_)
  refine zV (k_seq (kQ (zB rfl (yI rfl ty29 rfl (List.length_map _) ?_))))
  refine zB rfl (zA (zP ?_))
  refine yy (fun k s2=>∃n:Nat,k+n=l.length∧zGs t (l.take n)=true∧s2.st=[.box t.cs,.box z6]∧Holds s2 [(2,.box 0 0),(4,.box 1 0),(16,.lst .ro 1 (yG l)),(17,.int .i64 l.length),(18,.int .i64 n)]) (fun k s2 hI=>?_) l.length _ ⟨0,rfl,rfl,rfl,.c4 rfl rfl rfl rfl (.cons rfl (.nil rfl))⟩
  obtain⟨n,hk,hall,hst,hs⟩:=hI
  refine zM _ _ hs hst fun frx=>?_
  by_cases hn:n<l.length
  ·obtain⟨y,hy⟩:∃y,l[n]? =some y:=⟨l[n],List.getElem?_eq_getElem hn⟩
   by_cases h1:y<0
   ·have hkb:zGs t l=false:=zCJ hy (by simp;omega)
    have e:askE t l=11:=by unfold askE;rw[hv,hkb];rfl
    have e2:askC t l=z6:=by unfold askC;rw[e];rfl
    rw[e,e2]
    refine kQ (zl rfl rfl rfl (zA (k_seq (k_cT rfl (decide_eq_true (by omega)) (zV (k_seq (zP (kQ ?_))))))))
    refine yU (u:=.int .i64 (y)) rfl ty29 rfl rfl (Int.natCast_nonneg _) (by simp[hy]) cl3 ?_
    refine zx rfl rfl sh3 rfl ?_
    refine zC rfl (zA (kQ (zB rfl (zl rfl rfl rfl (zB rfl (o_gS rfl rfl rfl rfl (decide_eq_true (by omega)) (o_gS rfl rfl rfl rfl (decide_eq_true (by omega)) (o_gS rfl rfl rfl rfl (decide_eq_true (by omega)) ?_))))))))
    refine o_gS rfl rfl rfl rfl (decide_eq_true (by omega)) (o_gS rfl rfl rfl rfl (decide_eq_true (by omega)) (zW rfl rfl (decide_eq_true (by omega)) ?_))
    refine zA ?_
    refine zM [(2,U.box 0 0),(4,U.box 1 0),(16,.lst .ro 1 (yG l)),(17,.int .i64 ↑(List.length l)),(18,.int .i64 ↑n),(25,U.tup []),(26,U.tup []),(27,U.tup []),(28,U.tup []),(29,U.tup []),(30,.bool true)] ([SB.box t.cs,SB.box z6]) (.c4 rfl rfl rfl rfl (.c4 rfl rfl rfl rfl (.cons rfl (.cons rfl (.cons rfl (.nil rfl)))))) rfl fun fr=>?_
    refine k_cT rfl rfl ?_
    refine kQ (yK rfl ze84 pl84 rfl rfl ?_)
    refine zJ rfl rfl sh84 rfl rfl rfl rfl rfl ?_
    refine zC rfl (zA (zg ?_))
    refine⟨.inr rfl,_,.cons _ _ _ _ (.cellN 4 84 _ _ _ _ rfl rfl sh84 rfl) (.cons _ _ _ _ (.tmp 5) .nil),?_⟩
    exact .refl _
   ·by_cases h2:y ≥ (t.heard.length:Int)
    ·have hkb:zGs t l=false:=zCJ hy (by simp;omega)
     have e:askE t l=11:=by unfold askE;rw[hv,hkb];rfl
     have e2:askC t l=z6:=by unfold askC;rw[e];rfl
     rw[e,e2]
     refine kQ (zl rfl rfl rfl (zA (k_seq (k_cT rfl (decide_eq_true (by omega)) (zV (k_seq (zP (kQ ?_))))))))
     refine yU (u:=.int .i64 (y)) rfl ty29 rfl rfl (Int.natCast_nonneg _) (by simp[hy]) cl3 ?_
     refine zx rfl rfl sh3 rfl ?_
     refine zC rfl (zA (kQ (zB rfl (zl rfl rfl rfl (zB rfl (o_gD rfl rfl rfl rfl (decide_eq_false (by omega)) (zB rfl (o_gD rfl rfl rfl rfl (decide_eq_false (by omega)) ?_))))))))
     refine zD rfl rfl yk (o_gD rfl rfl rfl rfl (decide_eq_false (by omega)) (zE rfl rfl rfl sh22 rfl (o_gD rfl rfl rfl rfl (decide_eq_false (by omega)) (yI rfl ty22 rfl (List.length_map _) ?_))))
     refine o_gD rfl rfl rfl rfl (decide_eq_false (by omega)) (o_geq rfl rfl rfl (ze rfl rfl (decide_eq_false (by omega)) ?_))
     refine zA ?_
     refine zM [(2,U.box 0 0),(4,U.box 1 0),(16,.lst .ro 1 (yG l)),(17,.int .i64 ↑(List.length l)),(18,.int .i64 ↑n),(25,.int .i64 y),(26,U.box 0 0),(27,.lst .ro 2 (zZ t.heard)),(28,.int .i64 ↑t.heard.length),(29,U.bool (decide (↑t.heard.length≤y))),(30,U.bool (decide (↑t.heard.length≤y)))] ([SB.box t.cs,SB.box z6]) (.c4 rfl rfl rfl rfl (.c4 rfl rfl rfl rfl (.cons rfl (.cons rfl (.cons rfl (.nil rfl)))))) rfl fun fr=>?_
     refine k_cT rfl (decide_eq_true (by omega)) (kQ (yK rfl ze84 pl84 rfl rfl ?_))
     refine zJ rfl rfl sh84 rfl rfl rfl rfl rfl ?_
     refine zC rfl (zA (zg ?_))
     refine⟨.inr rfl,_,.cons _ _ _ _ (.cellN 4 84 _ _ _ _ rfl rfl sh84 rfl) (.cons _ _ _ _ (.tmp 5) .nil),?_⟩
     exact .refl _
    ·refine kQ ?_
     refine zl rfl rfl rfl (zA (k_seq (k_cT rfl (decide_eq_true (by omega)) (zV (k_seq (zP (kQ (yU (u:=.int .i64 (y)) rfl ty29 rfl rfl (Int.natCast_nonneg _) (by simp[hy]) cl3 ?_))))))))
     refine zx rfl rfl sh3 rfl ?_
     refine zC rfl (zA (kQ (zB rfl (zl rfl rfl rfl (zB rfl (o_gD rfl rfl rfl rfl (decide_eq_false (by omega)) (zB rfl (o_gD rfl rfl rfl rfl (decide_eq_false (by omega)) ?_))))))))
     refine zD rfl rfl yk (o_gD rfl rfl rfl rfl (decide_eq_false (by omega)) (zE rfl rfl rfl sh22 rfl (o_gD rfl rfl rfl rfl (decide_eq_false (by omega)) (yI rfl ty22 rfl (List.length_map _) ?_))))
     refine o_gD rfl rfl rfl rfl (decide_eq_false (by omega)) (o_geq rfl rfl rfl (ze rfl rfl (decide_eq_false (by omega)) ?_))
     refine zA ?_
     refine zM [(2,U.box 0 0),(4,U.box 1 0),(16,.lst .ro 1 (yG l)),(17,.int .i64 ↑(List.length l)),(18,.int .i64 ↑n),(25,.int .i64 y),(26,U.box 0 0),(27,.lst .ro 2 (zZ t.heard)),(28,.int .i64 ↑t.heard.length),(29,U.bool (decide (↑t.heard.length≤y))),(30,U.bool (decide (↑t.heard.length≤y)))] ([SB.box t.cs,SB.box z6]) (.c4 rfl rfl rfl rfl (.c4 rfl rfl rfl rfl (.cons rfl (.cons rfl (.cons rfl (.nil rfl)))))) rfl fun fr=>?_
     refine k_cF rfl (decide_eq_false (by omega)) (zV (k_region ?_))
     refine yh rfl rfl rfl (by unfold I64;omega) (zB rfl (zA ?_))
     exact⟨k - 1,by omega,n+1,by omega,zEQ hy hall (by simp;omega),rfl,.c4 rfl rfl rfl rfl (.cons rfl (.nil rfl))⟩
  ·have hn:n=l.length:=by omega
   subst hn
   rw[List.take_length]at hall
   cases htb:tunB t (zY t)with
   |false=>
    have e:askE t l=12:=by unfold askE;rw[hv,hall,htb];rfl
    have e2:askC t l=z6:=by unfold askC;rw[e];rfl
    rw[e,e2]
    rw[htb]at q65
    refine kQ (zl rfl rfl rfl (zA (k_seq (k_cF rfl (decide_eq_false (by omega)) (yb (kQ (zI rfl rfl rfl sh28 rfl (zR rfl q72 (.lrefl _) ?_))))))))
    refine zS rfl ze84 ?_
    refine zJ rfl rfl sh84 rfl rfl rfl rfl rfl ?_
    refine zA ?_
    refine zM [(4,U.box 1 0),(9,U.box 2 0)] ([SB.box t.cs,SB.box z6,SB.box [.lst .ro 2 (zZ t.heard),.lst .ro 2 (wD t.scales),.lst .ro 2 (zZ t.pairs),.int .i64 t.lo,.int .i64 t.hi,.lst .ro 5 (jnsU (zY t))]]) (.cons rfl (.cons rfl (.nil rfl))) rfl fun fr=>?_
    refine k_seq (kQ (zI rfl rfl rfl sh84 rfl (zR rfl (q65) (.lrefl _) (zAR rfl rfl (zA (k_cT rfl rfl ?_))))))
    refine kQ (yK rfl ze84 pl84 rfl rfl ?_)
    refine zJ rfl rfl sh84 rfl rfl rfl rfl rfl ?_
    refine zC rfl (zA (zg ?_))
    refine⟨.inr rfl,_,.cons _ _ _ _ (.cellN 4 84 _ _ _ _ rfl rfl sh84 rfl) (.cons _ _ _ _ (.tmp 5) .nil),?_⟩
    exact .refl _
   |true=>
    have e:askE t l=0:=by unfold askE;rw[hv,hall,htb];rfl
    have e2:askC t l=setC t (zY t):=by unfold askC;rw[e];rfl
    rw[e,e2]
    rw[htb]at q65
    refine kQ (zl rfl rfl rfl (zA (k_seq (k_cF rfl (decide_eq_false (by omega)) (yb (kQ (zI rfl rfl rfl sh28 rfl (zR rfl q72 (.lrefl _) ?_))))))))
    refine zS rfl ze84 ?_
    refine zJ rfl rfl sh84 rfl rfl rfl rfl rfl ?_
    refine zA ?_
    refine zM [(4,U.box 1 0),(9,U.box 2 0)] ([SB.box t.cs,SB.box z6,SB.box [.lst .ro 2 (zZ t.heard),.lst .ro 2 (wD t.scales),.lst .ro 2 (zZ t.pairs),.int .i64 t.lo,.int .i64 t.hi,.lst .ro 5 (jnsU (zY t))]]) (.cons rfl (.cons rfl (.nil rfl))) rfl fun fr=>?_
    refine k_seq (kQ (zI rfl rfl rfl sh84 rfl (zR rfl (q65) (.lrefl _) (zAR rfl rfl (zA (k_cF rfl rfl ?_))))))
    refine zV (kQ (zI rfl rfl rfl sh84 rfl (zJ rfl rfl sh84 rfl rfl rfl rfl rfl ?_)))
    refine zC rfl (zA (zg ?_))
    refine⟨.inr rfl,_,.cons _ _ _ _ (.cellN 4 84 _ _ _ _ rfl rfl sh84 rfl) (.cons _ _ _ _ (.tmp 5) .nil),?_⟩
    exact .refl _
end
end Go.Proofs.Ytinhcdijbcamaaa.tuneWider
