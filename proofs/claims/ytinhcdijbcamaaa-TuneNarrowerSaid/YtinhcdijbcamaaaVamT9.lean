import Derived.Test.YtinhcdijbcamaaaVamT8
set_option linter.unusedVariables false
set_option linter.unusedSimpArgs false
set_option linter.constructorNameAsVariable false
namespace Go.Proofs.Ytinhcdijbcamaaa.tuneNarrower
open Vam
section
variable {t:Ts}{J:List Jn}{v x:Int}
abbrev TunT(t:Ts)(J:List Jn)(p:Int→Int):Prop:=Tun J (hloT t) (hhiT t) t.heard.length p
def TunE(t:Ts)(J:List Jn):Prop:=∃p,TunT t J p
theorem TOk.sok(h:TOk t):SOk t (zp t):=by
 have hv:=(y8 t).2 h
 unfold z7 at hv
 rw[Bool.and_eq_true,Bool.and_eq_true,Bool.and_eq_true,Bool.and_eq_true]at hv
 obtain⟨_,hB,hC,hD,_⟩:=hv
 have hj:=joins_ok h.n8 hB hC hD
 exact⟨h.n1,h.n8,h.hd,fun j hj'=>(hj j hj').1,fun j hj'=>(hj j hj').2,by have:=uU h.sh;omega,h.ac⟩
def InH(t:Ts)(v x:Int):Prop:=hloT t v≤x∧x≤hhiT t v
theorem uY{s:Bool}{i:Nat}(h:utI t J s v=some i):i<(hhiT t v+1 - hloT t v).toNat∧canS t J v (pI s (hloT t v) (hhiT t v) i) (-1)=true∧∀j,j<i→canS t J v (pI s (hloT t v) (hhiT t v) j) (-1)=false:=by
 unfold utI at h
 obtain⟨h1,xs,ys,h2,h3⟩:=List.find?_eq_some_iff_append.1 h
 have hm:i∈List.range (hhiT t v+1 - hloT t v).toNat:=by rw[h2];simp
 have hlt:=List.mem_range.1 hm
 have hlen:xs.length=i:=by
  have:=congrArg (fun l=>l[xs.length]?) h2
  rw[List.getElem?_append_right (Nat.le_refl _),Nat.sub_self]at this
  obtain⟨hl,he⟩:=List.getElem?_eq_some_iff.1 this
  rw[List.getElem_range]at he;exact he
 refine⟨hlt,h1,fun j hj=>?_⟩
 have hin:j∈xs:=by
  have h5:(List.range (hhiT t v+1 - hloT t v).toNat)[j]? =some j:=List.getElem?_range (by omega)
  rw[h2,List.getElem?_append_left (by omega)]at h5
  exact List.mem_of_getElem? h5
 have:=h3 j hin
 simpa using this
theorem pI_in{s:Bool}{i:Nat}(h:i<(hhiT t v+1 - hloT t v).toNat):InH t v (pI s (hloT t v) (hhiT t v) i):=by
 unfold InH;cases s<;>unfold pI<;>simp only<;>omega
def pX(s:Bool)(lo hi x:Int):Nat:=match s with|false=>(x - lo).toNat|true=>(hi - x).toNat
theorem pI_pX{s:Bool}{lo hi x:Int}(h:lo≤x∧x≤hi):pX s lo hi x<(hi+1 - lo).toNat∧pI s lo hi (pX s lo hi x)=x:=by cases s<;>unfold pI pX<;>simp only<;>omega
theorem ut_none{s:Bool}(h:utI t J s v=none):∀x,InH t v x→canS t J v x (-1)=false:=by
 intro x hx
 unfold utI at h
 rw[List.find?_eq_none]at h
 obtain⟨h1,h2⟩:=pI_pX (s:=s) hx
 have:=h _ (List.mem_range.2 h1)
 rw[h2]at this
 simpa using this
theorem y7(h:SOk t J):tunB t J=true↔TunE t J:=by
 unfold TunE
 rw[←h.jn.tunable_iff]
 unfold tunB
 rw[List.all_eq_true]
 constructor
 ·intro h1 v hv0 hv1
  have:=h1 v.toNat (List.mem_range.2 (by omega))
  rw[show((v.toNat:Nat):Int)=v by omega]at this
  obtain⟨i,hi⟩:=Option.isSome_iff_exists.1 this
  obtain⟨a,b,_⟩:=uY hi
  have:=pI_in (s:=false) a
  exact⟨_,this.1,this.2,b⟩
 ·intro h1 v hv
  obtain⟨x,a,b,c⟩:=h1 v (by omega) (by have:=List.mem_range.1 hv;omega)
  cases hu:utI t J false v with
  |some i=>rfl
  |none=>
   have:=ut_none hu x ⟨a,b⟩
   rw[show canS t J (v:Int) x (-1)=true from c]at this;cases this
theorem can_t(h:SOk t J)(ht:TunE t J)(hv:0≤v∧v<(t.heard.length:Int))(hx:InH t v x):canS t J v x (-1)=true↔ ∃p,TunT t J p∧p v=x:=h.jn.can_iff ht hv hx
def Least(t:Ts)(J:List Jn)(f:(Int→Int)→Int)(m:Int):Prop:=(∃p,TunT t J p∧f p=m)∧∀p,TunT t J p→m≤f p
def Most(t:Ts)(J:List Jn)(f:(Int→Int)→Int)(m:Int):Prop:=(∃p,TunT t J p∧f p=m)∧∀p,TunT t J p→f p≤m
theorem ut_ex(h:SOk t J)(ht:TunE t J)(s:Bool)(hv:0≤v∧v<(t.heard.length:Int)):∃i,utI t J s v=some i:=by
 cases hu:utI t J s v with
 |some i=>exact⟨i,rfl⟩
 |none=>
  obtain⟨p,hp⟩:=ht
  have hin:InH t v (p v):=hp.1 v hv.1 hv.2
  have:=ut_none hu _ hin
  rw[(can_t h ⟨p,hp⟩ hv hin).2 ⟨p,hp,rfl⟩]at this;cases this
theorem ut_low(h:SOk t J)(ht:TunE t J)(hv:0≤v∧v<(t.heard.length:Int)):Least t J (fun p=>p v) (utP t J false v):=by
 obtain⟨i,hi⟩:=ut_ex h ht false hv
 obtain⟨a,b,c⟩:=uY hi
 have hin:=pI_in (s:=false) a
 have e:utP t J false v=hloT t v+i:=by unfold utP;rw[hi];rfl
 refine⟨?_,fun p hp=>?_⟩
 ·rw[e];exact(can_t h ht hv hin).1 b
 ·rw[e]
  have hpv:InH t v (p v):=hp.1 v hv.1 hv.2
  by_cases hlt:hloT t v+i≤p v
  ·exact hlt
  ·exfalso
   have:=c (p v - hloT t v).toNat (by have:=hpv.1;omega)
   rw[show pI false (hloT t v) (hhiT t v) (p v - hloT t v).toNat=p v by unfold pI;simp only;have:=hpv.1;omega,(can_t h ht hv hpv).2 ⟨p,hp,rfl⟩]at this
   cases this
theorem ut_high(h:SOk t J)(ht:TunE t J)(hv:0≤v∧v<(t.heard.length:Int)):Most t J (fun p=>p v) (utP t J true v):=by
 obtain⟨i,hi⟩:=ut_ex h ht true hv
 obtain⟨a,b,c⟩:=uY hi
 have hin:=pI_in (s:=true) a
 have e:utP t J true v=hhiT t v - i:=by unfold utP;rw[hi];rfl
 refine⟨?_,fun p hp=>?_⟩
 ·rw[e];exact(can_t h ht hv hin).1 b
 ·rw[e]
  have hpv:InH t v (p v):=hp.1 v hv.1 hv.2
  by_cases hlt:p v≤hhiT t v - i
  ·exact hlt
  ·exfalso
   have:=c (hhiT t v - p v).toNat (by have:=hpv.2;omega)
   rw[show pI true (hloT t v) (hhiT t v) (hhiT t v - p v).toNat=p v by unfold pI;simp only;have:=hpv.2;omega,(can_t h ht hv hpv).2 ⟨p,hp,rfl⟩]at this
   cases this
def yn(t:Ts)(v x:Int):Ts:={t with heard:=t.heard.set v.toNat ⟨x,x⟩}
theorem ww(hv:0≤v∧v<(t.heard.length:Int))(u:Int)(hu:0≤u):hloT (yn t v x) u=if u=v then x else hloT t u:=by
 unfold hloT yn
 simp only[List.getElem?_set]
 by_cases e:u=v
 ·subst e;rw[if_pos rfl,if_pos rfl,if_pos (by omega)];rfl
 ·rw[if_neg e,if_neg (by omega)]
theorem wz(hv:0≤v∧v<(t.heard.length:Int))(u:Int)(hu:0≤u):hhiT (yn t v x) u=if u=v then x else hhiT t u:=by
 unfold hhiT yn
 simp only[List.getElem?_set]
 by_cases e:u=v
 ·subst e;rw[if_pos rfl,if_pos rfl,if_pos (by omega)];rfl
 ·rw[if_neg e,if_neg (by omega)]
theorem wR(h:SOk t J)(hx:1≤x∧x≤4000):SOk (yn t v x) J:=by
 have hl:(yn t v x).heard.length=t.heard.length:=by unfold yn;simp
 refine⟨by rw[hl];exact h.n1,by rw[hl];exact h.n8,fun q hq=>?_,h.jv,by rw[hl];exact h.jr,h.jl,h.ac⟩
 rcases List.mem_or_eq_of_mem_set hq with hq|rfl
 ·exact h.hd q hq
 ·exact⟨hx.1,Int.le_refl _,hx.2,by show x - x≤40;omega⟩
theorem wk(hv:0≤v∧v<(t.heard.length:Int))(hx:InH t v x)(p:Int→Int):TunT (yn t v x) J p↔TunT t J p∧p v=x:=by
 have hl:(yn t v x).heard.length=t.heard.length:=by unfold yn;simp
 unfold TunT Tun
 rw[hl]
 constructor
 ·rintro⟨h1,h2⟩
  have hvv:=h1 v hv.1 hv.2
  rw[ww hv v hv.1,wz hv v hv.1,if_pos rfl,if_pos rfl]at hvv
  refine⟨⟨fun u hu0 hu1=>?_,h2⟩,by omega⟩
  have:=h1 u hu0 hu1
  rw[ww hv u hu0,wz hv u hu0]at this
  by_cases e:u=v
  ·subst e;have:=hx.1;have:=hx.2;omega
  ·rwa [if_neg e,if_neg e]at this
 ·rintro⟨⟨h1,h2⟩,h3⟩
  refine⟨fun u hu0 hu1=>?_,h2⟩
  rw[ww hv u hu0,wz hv u hu0]
  by_cases e:u=v
  ·subst e;rw[if_pos rfl,if_pos rfl];omega
  ·rw[if_neg e,if_neg e];exact h1 u hu0 hu1
theorem in_pos(h:SOk t J){a x:Int}(ha:0≤a∧a<(t.heard.length:Int))(hx:InH t a x):1≤x∧x≤4000:=by
 obtain⟨q,_,e1,e2,hq⟩:=h.key ha
 unfold InH at hx
 rw[e1,e2]at hx
 omega
end
section
variable {is:FuncId→Bool}{orc:Known}
theorem by26:Program.bytesOf Try.prog 26=16:=by kernel_rfl
theorem uf:AppT Try.prog 22 22 26 2 16 ((.cons (.int .i64 0) (.cons (.int .i64 0) .nil)):V):=⟨ty22,⟨_,ty22⟩,cl26,by decide,by26,ze26,rfl⟩
noncomputable def b91:Code:=(Try.f91.body).getD .skip
theorem body91:bodyOf Try.prog 91=some (8,b91,[.tmp 2]):=by kernel_rfl
theorem pure91:pureFn Try.prog 91=false:=by kernel_rfl
theorem ze84:yR Try.prog 84=some ((.cons .nils (.cons .nils (.cons .nils (.cons (.int .i64 0) (.cons (.int .i64 0) (.cons .nils .nil)))))):V):=by kernel_rfl
noncomputable def b64:Code:=(Try.f64.body).getD .skip
theorem body64:bodyOf Try.prog 64=some (21,b64,[.cell 6 84]):=by kernel_rfl
theorem pure64:pureFn Try.prog 64=false:=by kernel_rfl
variable {t:Ts}{J:List Jn}{v x:Int}
theorem wQ(l:List Two):zf (zS l)=l.flatMap fun q=>[U.int .i64 q.a,.int .i64 q.b]:=by
 induction l with
 |nil=>rfl
 |cons q l ih=>show zq q.u++zf (zS l)=_;rw[ih];rfl
theorem z0(l:List Two):(zf (zS l)).map dg=zf (zS l):=by
 rw[wQ]
 induction l with
 |nil=>rfl
 |cons q l ih=>rw[List.flatMap_cons,List.map_append,ih];rfl
theorem wM(l:List Two):(zf (zS l)).all oneU=true:=by
 rw[wQ]
 induction l with
 |nil=>rfl
 |cons q l ih=>rw[List.flatMap_cons,List.all_append,ih];rfl
theorem yl(l:List Two):(zf (zS l)).length=2*l.length:=by
 rw[wQ]
 induction l with
 |nil=>rfl
 |cons q l ih=>rw[List.flatMap_cons,List.length_append,ih];simp;omega
theorem wL(l:List Two)(i:Nat)(q:Two)(h:i<l.length):(zf (zS l)).take (0+i*2)++[U.int .i64 q.a,.int .i64 q.b]++(zf (zS l)).drop (0+i*2+2)=zf (zS (l.set i q)):=by
 rw[wQ,wQ,Nat.zero_add]
 induction l generalizing i with
 |nil=>simp at h
 |cons p l ih=>
  cases i with
  |zero=>simp
  |succ i=>
   have:=ih i (by simpa using h)
   rw[List.set_cons_succ,List.flatMap_cons,List.flatMap_cons,←this]
   rw[show(i+1)*2=i*2+1+1 by omega]
   simp[List.take_add,Nat.add_assoc]
theorem wpc91(l:List Two)(h1:1≤l.length)(h8:l.length≤8)(st:List SB):WpC Try.prog is orc 91 [.lst .ro 2 (zS l)] st fun u st'=>u=.sl st.length 0 l.length 2∧st'=st++[.box (zf (zS l))]:=by
 refine wpc_of body91 pure91 rfl rfl ?_
 refine kQ (zC rfl (zB (k_seq (kQ (zA rfl ?_)))))
 refine o_eqNil rfl ty22 rfl (fun _=>rfl) fun b hb=>?_
 have hb:=hb (by cases l with
  |nil=>simp at h1
  |cons q l=>exact fun h=>by cases h)
 subst hb
 refine zB (k_cF rfl rfl ?_)
 refine zW (kQ (o_lit (es:=[]) rfl ty22 ze26 cl26 rfl rfl rfl rfl rfl rfl rfl rfl ?_))
 refine zA rfl (o_appendB rfl uf rfl rfl (by simp) (by simp) (wM l) (z0 l) (List.length_map _) (by omega) (by omega) ?_)
 refine zC rfl (zB (ze ?_))
 exact⟨.inr rfl,_,.cons _ _ _ _ (.tmp 2) .nil,_,.refl _,rfl,rfl⟩
theorem o_seeE{P:Program}{sg:St}{all l:List Oper}{Q:St→Prop}(d:Nat){u w:U}{st:List SB}(hd:Nat.blt d 1024=true)(hn:∀v,yL v u=none)(hw:sg.fr d=w)(he:sg.st=st)(hu:US st (.u w) (.u u))(k:WpO P is orc all l (sg.put d u) Q):WpO P is orc all l sg Q:=by
 subst hw;subst he;exact o_see d hd hn hu k
theorem ua(t:Ts)(J:List Jn):NB (.agg (setC t J)):=(wm t J 0).nb
theorem no_agg(cs:List U):NoOwn (.agg cs):=fun _=>rfl
abbrev narC(t:Ts)(J:List Jn)(u:U):List U:=[u,.lst .ro 2 (yg t.scales),.lst .ro 2 (zS t.pairs),.int .i64 t.lo,.int .i64 t.hi,.lst .ro 5 (jnsU J)]
set_option maxHeartbeats 8000000 in
theorem ret64(hi:Off is)(h1:1≤t.heard.length)(h8:t.heard.length≤8)(hv:0≤v∧v<(t.heard.length:Int)):RetP Try.prog is orc 64 [.agg (setC t J),.int .i64 v,.int .i64 x] (.agg (setC (yn t v x) J)):=by
 refine ret_of_shared body64 pure64 rfl rfl (fun u hu=>by
  simp only[List.mem_cons,List.not_mem_nil,or_false]at hu
  rcases hu with rfl|rfl|rfl
  ·exact⟨ua t J,no_agg _⟩
  ·exact⟨NB.int _ _,fun _=>rfl⟩
  ·exact⟨NB.int _ _,fun _=>rfl⟩) (ua _ J) ?_
 have q92:=ret92 (orc:=orc) hi x
 have hset:=wL t.heard v.toNat ⟨x,x⟩ (by omega)
 have hfl:=yl t.heard
 refine kQ (yH rfl rfl (zV rfl ze84 ?_))
 refine zB ?_
 refine zM [(1,.int .i64 v),(2,.int .i64 x),(3,U.box 0 0),(6,U.box 1 0)] ([SB.box [.lst .ro 2 (zS t.heard),.lst .ro 2 (yg t.scales),.lst .ro 2 (zS t.pairs),.int .i64 t.lo,.int .i64 t.hi,.lst .ro 5 (jnsU J)],SB.box [.lst .full 0 [],.lst .full 0 [],.lst .full 0 [],.int .i64 0,.int .i64 0,.lst .full 0 []]]) (.c4 rfl rfl rfl rfl (.nil rfl)) rfl fun fr=>?_
 refine kQ (zG rfl rfl wB (zG rfl rfl yA (zF rfl rfl rfl sh22 rfl ?_)))
 (refine o_callW rfl (wpc91 t.heard h1 h8 _) (.lrefl _) (fun u st1 hM=>?_);obtain⟨rfl,rfl⟩:=hM)
 refine zG rfl rfl wB (zG rfl rfl yA (o_store1 rfl rfl sh22 rfl rfl (zB ?_)))
 refine zM [(1,.int .i64 v),(2,.int .i64 x),(3,U.box 0 0),(6,U.box 1 0)] ([SB.box [U.sl 2 0 t.heard.length 2,.lst .ro 2 (yg t.scales),.lst .ro 2 (zS t.pairs),.int .i64 t.lo,.int .i64 t.hi,.lst .ro 5 (jnsU J)],SB.box [.lst .full 0 [],.lst .full 0 [],.lst .full 0 [],.int .i64 0,.int .i64 0,.lst .full 0 []],SB.box (zf (zS t.heard))]) (.c4 rfl rfl rfl rfl (.nil rfl)) rfl fun fr=>?_
 refine k_seq (k_draw [.plain,.plain,.read true,.plain,.plain,.read false,.plain,.plain] (by kernel_rfl) (by kernel_rfl) (by kernel_rfl) ?_)
 refine zE (zG rfl rfl wB (zB rfl)) ?_
 refine zE (zG rfl rfl yA (zB rfl)) ?_
 refine zi rfl (zF rfl rfl rfl sh22 rfl (zB rfl)) (zE (zA rfl (zB rfl)) (zE (zA rfl (zB rfl)) (d_callR rfl (ret92 hi ..) (wH _ _) (.lrefl _) ?_)))
 refine zE (o_idxS rfl ty22 rfl rfl (by omega) (by omega) cl26 (zB rfl)) ?_
 refine zE (o_storeNW rfl rfl sh26 rfl rfl rfl (by rw[hfl];omega) rfl hset (zB rfl)) ?_
 refine d_nil ?_
 refine zM [(3,.box 0 0),(6,.box 1 0)] ([SB.box [U.sl 2 0 t.heard.length 2,.lst .ro 2 (yg t.scales),.lst .ro 2 (zS t.pairs),.int .i64 t.lo,.int .i64 t.hi,.lst .ro 5 (jnsU J)],SB.box [.lst .full 0 [],.lst .full 0 [],.lst .full 0 [],.int .i64 0,.int .i64 0,.lst .full 0 []],SB.box (zf (zS (List.set t.heard (Int.toNat v) {a:=x,b:=x})))]) (.c2 rfl rfl (.nil rfl)) rfl fun fr=>?_
 have hfs:zf (zS (yn t v x).heard)=((zf (zS (yn t v x).heard)).drop 0).take (t.heard.length*2):=by
  rw[List.drop_zero,List.take_of_length_le (by rw[yl];unfold yn;simp;omega)]
 have hez:∀e∈zS (yn t v x).heard,(zq e).length=2:=fun e he=>by
  obtain⟨q,_,rfl⟩:=List.mem_map.1 he;rfl
 have hel:(zS (yn t v x).heard).length=t.heard.length:=by unfold yn;simp
 have hle:0+t.heard.length*2≤(zf (zS (yn t v x).heard)).length:=by rw[yl];unfold yn;simp;omega
 refine zM [(3,.box 0 0),(6,.box 1 0)] [.box (narC t J (.sl 2 0 t.heard.length 2)),.box [.lst .full 0 [],.lst .full 0 [],.lst .full 0 [],.int .i64 0,.int .i64 0,.lst .full 0 []],.box (zf (zS (yn t v x).heard))] (.c2 rfl rfl (.nil rfl)) rfl fun frx=>?_
 refine kQ (o_frz (a:=2) rfl ?_)
 refine zK rfl rfl rfl sh84 rfl ?_
 have hus:US [.box (narC t J (.sl 2 0 t.heard.length 2)),.box [.lst .full 0 [],.lst .full 0 [],.lst .full 0 [],.int .i64 0,.int .i64 0,.lst .full 0 []],.froz ((zf (zS (yn t v x).heard)).map dg)] (.u (.agg (narC t J (.sl 2 0 t.heard.length 2)))) (.u (.agg (narC t J (.lst .ro 2 (zS (yn t v x).heard))))):=
  .agg _ _ (.lcons _ _ _ _ (.sl _ _ _ _ _ _ rfl (by rw[z0];exact hfs) hez hel (by rw[z0];exact hle)) (.lrefl _))
 refine o_seeE 20 (u:=.agg (narC t J (.lst .ro 2 (zS (yn t v x).heard)))) rfl (fun _=>rfl) rfl rfl hus ?_
 refine zN rfl rfl sh84 rfl rfl rfl rfl rfl ?_
 refine zB (ze ?_)
 refine⟨.inr rfl,_,.cons _ _ _ _ (.cellN 6 84 _ _ _ _ rfl rfl sh84 rfl) .nil,?_⟩
 exact .refl _
end
section
variable {is:FuncId→Bool}{orc:Known}
theorem pl84:plcOf Try.prog 84=some [(0,5),(5,1)]:=by kernel_rfl
noncomputable def b72:Code:=(Try.f72.body).getD .skip
theorem body72:bodyOf Try.prog 72=some (7,b72,[.cell 2 84]):=by kernel_rfl
theorem pure72:pureFn Try.prog 72=true:=by kernel_rfl
noncomputable def b59:Code:=(Try.f59.body).getD .skip
theorem body59:bodyOf Try.prog 59=some (40,b59,[.cell 4 84,.tmp 5]):=by kernel_rfl
theorem pure59:pureFn Try.prog 59=true:=by kernel_rfl
variable {t:Ts}{J:List Jn}{v x:Int}
theorem ret72(hi:Off is)(h:Sh t):RetP Try.prog is orc 72 [t.u] (.agg (setC t (zp t))):=by
 have q51:=ret51 (orc:=orc) hi h
 refine yQ body72 pure72 (hi 72 (by decide)) rfl rfl (y6 (wC t 4)) (.inl (wm _ _ _)) ?_
 refine kQ (yH rfl rfl (zV rfl ze84 ?_))
 refine zB ?_
 refine zM [(1,.box 0 0),(2,.box 1 0)] ([SB.box t.cs,SB.box [.lst .full 0 [],.lst .full 0 [],.lst .full 0 [],.int .i64 0,.int .i64 0,.lst .full 0 []]]) (.c2 rfl rfl (.nil rfl)) rfl fun fr=>?_
 refine k_seq (k_draw [.read true,.read true,.quiet,.plain,.plain] (by kernel_rfl) (by kernel_rfl) (by kernel_rfl) ?_)
 refine zi rfl (zK rfl rfl rfl sh28 rfl (zB rfl)) ?_
 refine zi rfl (zK rfl rfl rfl sh28 rfl (zB rfl)) ?_
 refine d_callQ rfl q51 (.lrefl _) ?_
 refine zE (yP rfl ze84 pl84 rfl rfl (zB rfl)) ?_
 refine zE (zN rfl rfl sh84 rfl rfl rfl rfl rfl (zB rfl)) ?_
 refine d_nil ?_
 refine ze ?_
 refine⟨.inr rfl,_,.cons _ _ _ _ (.cellN 2 84 _ _ _ _ rfl rfl sh84 rfl) .nil,?_⟩
 exact .refl _
def uF(t:Ts)(l:List Int):Bool:=l.all fun k=>decide (0≤k)&&decide (k<(t.heard.length:Int))
noncomputable def askE(t:Ts)(l:List Int):Int:=if z7 t=true then(if uF t l=true then(if tunB t (zp t)=true then 0 else 12)else 11)else 10
abbrev z6:List U:=[.lst .full 0 [],.lst .full 0 [],.lst .full 0 [],.int .i64 0,.int .i64 0,.lst .full 0 []]
theorem dat_z6(k:Nat):Dat (k+2) (.agg z6):=.agg _ _ fun c hc=>by
 simp only[List.mem_cons,List.not_mem_nil,or_false]at hc
 rcases hc with rfl|rfl|rfl|rfl|rfl|rfl<;>first|exact .int _ _ _|exact .lst _ _ _ _ (fun h=>by cases h) (fun c hc=>by cases hc)
noncomputable def askC(t:Ts)(l:List Int):List U:=if askE t l=0 then setC t (zp t)else z6
theorem dat_askC(t:Ts)(l:List Int)(k:Nat):Dat (k+4) (.agg (askC t l)):=by
 unfold askC
 split
 ·exact wm _ _ _
 ·exact dat_z6 _
set_option maxHeartbeats 8000000 in
theorem ret59(hi:Off is)(t:Ts)(l:List Int)(hl:l.length≤4):RetP Try.prog is orc 59 [t.u,.lst .ro 1 (yc l)] (.tup [.agg (askC t l),.int .i64 (askE t l)]):=by
 have q17:=ret17 (orc:=orc) hi t
 refine yQ body59 pure59 (hi 59 (by decide)) rfl rfl (z4 (wC t 4) (dat_ints 6 .ro (fun h=>by cases h) 1 l)) (.inr ⟨_,rfl,z4 (dat_askC t l 3) (.int _ _ _)⟩) ?_
 cases hv:z7 t with
 |false=>
  have e:askE t l=10:=by unfold askE;rw[hv];rfl
  have e2:askC t l=z6:=by unfold askC;rw[e];rfl
  rw[hv,if_neg (by decide)]at q17
  rw[e,e2]
  refine kQ (yH rfl rfl (zV rfl ze84 ?_))
  refine zC rfl (zB ?_)
  refine zM [(1,.lst .ro 1 (yc l)),(2,U.box 0 0),(4,U.box 1 0)] ([SB.box t.cs,SB.box [.lst .full 0 [],.lst .full 0 [],.lst .full 0 [],.int .i64 0,.int .i64 0,.lst .full 0 []]]) (.c2 rfl rfl (.cons rfl (.nil rfl))) rfl fun fr=>?_
  refine k_seq (kQ (zK rfl rfl rfl sh28 rfl (zX rfl (q17) (.lrefl _) (zC rfl (zB (kQ (zA rfl (o_neq rfl rfl rfl ?_))))))))
  refine zB (k_cT rfl rfl ?_)
  refine kQ (yP rfl ze84 pl84 rfl rfl ?_)
  refine zA rfl (zN rfl rfl sh84 rfl rfl rfl rfl rfl ?_)
  refine zC rfl (zB (ze ?_))
  refine⟨.inr rfl,_,.cons _ _ _ _ (.cellN 4 84 _ _ _ _ rfl rfl sh84 rfl) (.cons _ _ _ _ (.tmp 5) .nil),?_⟩
  exact .refl _
 |true=>
  have hok:=(y8 t).1 hv
  have hsok:=hok.sok
  rw[hv,if_pos rfl]at q17
  have q72:=ret72 (orc:=orc) hi hok.sh
  have q65:=ret65 (orc:=orc) hi hsok
  refine kQ (yH rfl rfl (zV rfl ze84 ?_))
  refine zC rfl (zB ?_)
  refine zM [(1,.lst .ro 1 (yc l)),(2,U.box 0 0),(4,U.box 1 0)] ([SB.box t.cs,SB.box [.lst .full 0 [],.lst .full 0 [],.lst .full 0 [],.int .i64 0,.int .i64 0,.lst .full 0 []]]) (.c2 rfl rfl (.cons rfl (.nil rfl))) rfl fun fr=>?_
  refine k_seq (kQ (zK rfl rfl rfl sh28 rfl (zX rfl (q17) (.lrefl _) (zC rfl (zB (kQ (zA rfl (o_neq rfl rfl rfl ?_))))))))
  refine zB (k_cF rfl rfl ?_)
  refine zW (k_seq (kQ (zA rfl (yZ rfl ty29 rfl (List.length_map _) ?_))))
  refine zA rfl (zB (zP ?_))
  refine k_loop (fun k s2=>∃n:Nat,k+n=l.length∧uF t (l.take n)=true∧s2.st=[.box t.cs,.box z6]∧Holds s2 [(2,.box 0 0),(4,.box 1 0),(16,.lst .ro 1 (yc l)),(17,.int .i64 l.length),(18,.int .i64 n)]) (fun k s2 hI=>?_) l.length _ ⟨0,rfl,rfl,rfl,.c4 rfl rfl rfl rfl (.cons rfl (.nil rfl))⟩
  obtain⟨n,hk,hall,hst,hs⟩:=hI
  refine zM _ _ hs hst fun frx=>?_
  by_cases hn:n<l.length
  ·obtain⟨y,hy⟩:∃y,l[n]? =some y:=⟨l[n],List.getElem?_eq_getElem hn⟩
   by_cases h1:y<0
   ·have hkb:uF t l=false:=wN hy (by simp;omega)
    have e:askE t l=11:=by unfold askE;rw[hv,hkb];rfl
    have e2:askC t l=z6:=by unfold askC;rw[e];rfl
    rw[e,e2]
    refine kQ (zt rfl rfl rfl (zB (k_seq (k_cT rfl (decide_eq_true (by omega)) (zW (k_seq (zP (kQ ?_))))))))
    refine yr (u:=.int .i64 (y)) rfl ty29 rfl rfl (Int.natCast_nonneg _) (by simp[hy]) cl3 ?_
    refine yk rfl rfl sh3 rfl ?_
    refine zC rfl (zB (kQ (zA rfl (zt rfl rfl rfl (zA rfl (o_gS rfl rfl rfl rfl (decide_eq_true (by omega)) (o_gS rfl rfl rfl rfl (decide_eq_true (by omega)) (o_gS rfl rfl rfl rfl (decide_eq_true (by omega)) ?_))))))))
    refine o_gS rfl rfl rfl rfl (decide_eq_true (by omega)) (o_gS rfl rfl rfl rfl (decide_eq_true (by omega)) (zT rfl rfl (decide_eq_true (by omega)) ?_))
    refine zB ?_
    refine zM [(2,.box 0 0),(4,.box 1 0),(16,.lst .ro 1 (yc l)),(17,.int .i64 ↑(List.length l)),(18,.int .i64 ↑n),(25,.tup []),(26,.tup []),(27,.tup []),(28,.tup []),(29,.tup []),(30,.bool true)] ([SB.box t.cs,SB.box z6]) (.c4 rfl rfl rfl rfl (.c4 rfl rfl rfl rfl (.c2 rfl rfl (.cons rfl (.nil rfl))))) rfl fun fr=>?_
    refine k_cT rfl rfl ?_
    refine kQ (yP rfl ze84 pl84 rfl rfl ?_)
    refine zN rfl rfl sh84 rfl rfl rfl rfl rfl ?_
    refine zC rfl (zB (ze ?_))
    refine⟨.inr rfl,_,.cons _ _ _ _ (.cellN 4 84 _ _ _ _ rfl rfl sh84 rfl) (.cons _ _ _ _ (.tmp 5) .nil),?_⟩
    exact .refl _
   ·by_cases h2:y ≥ (t.heard.length:Int)
    ·have hkb:uF t l=false:=wN hy (by simp;omega)
     have e:askE t l=11:=by unfold askE;rw[hv,hkb];rfl
     have e2:askC t l=z6:=by unfold askC;rw[e];rfl
     rw[e,e2]
     refine kQ (zt rfl rfl rfl (zB (k_seq (k_cT rfl (decide_eq_true (by omega)) (zW (k_seq (zP (kQ ?_))))))))
     refine yr (u:=.int .i64 (y)) rfl ty29 rfl rfl (Int.natCast_nonneg _) (by simp[hy]) cl3 ?_
     refine yk rfl rfl sh3 rfl ?_
     refine zC rfl (zB (kQ (zA rfl (zt rfl rfl rfl (zA rfl (o_gD rfl rfl rfl rfl (decide_eq_false (by omega)) (zA rfl (o_gD rfl rfl rfl rfl (decide_eq_false (by omega)) ?_))))))))
     refine zG rfl rfl yA (o_gD rfl rfl rfl rfl (decide_eq_false (by omega)) (zF rfl rfl rfl sh22 rfl (o_gD rfl rfl rfl rfl (decide_eq_false (by omega)) (yZ rfl ty22 rfl (List.length_map _) ?_))))
     refine o_gD rfl rfl rfl rfl (decide_eq_false (by omega)) (o_geq rfl rfl rfl (zQ rfl rfl (decide_eq_false (by omega)) ?_))
     refine zB ?_
     refine zM [(2,.box 0 0),(4,.box 1 0),(16,.lst .ro 1 (yc l)),(17,.int .i64 ↑(List.length l)),(18,.int .i64 ↑n),(25,.int .i64 y),(26,.box 0 0),(27,.lst .ro 2 (zS t.heard)),(28,.int .i64 ↑t.heard.length),(29,.bool (decide (↑t.heard.length≤y))),(30,.bool (decide (↑t.heard.length≤y)))] ([SB.box t.cs,SB.box z6]) (.c4 rfl rfl rfl rfl (.c4 rfl rfl rfl rfl (.c2 rfl rfl (.cons rfl (.nil rfl))))) rfl fun fr=>?_
     refine k_cT rfl (decide_eq_true (by omega)) (kQ (yP rfl ze84 pl84 rfl rfl ?_))
     refine zN rfl rfl sh84 rfl rfl rfl rfl rfl ?_
     refine zC rfl (zB (ze ?_))
     refine⟨.inr rfl,_,.cons _ _ _ _ (.cellN 4 84 _ _ _ _ rfl rfl sh84 rfl) (.cons _ _ _ _ (.tmp 5) .nil),?_⟩
     exact .refl _
    ·refine kQ ?_
     refine zt rfl rfl rfl (zB (k_seq (k_cT rfl (decide_eq_true (by omega)) (zW (k_seq (zP (kQ (yr (u:=.int .i64 (y)) rfl ty29 rfl rfl (Int.natCast_nonneg _) (by simp[hy]) cl3 ?_))))))))
     refine yk rfl rfl sh3 rfl ?_
     refine zC rfl (zB (kQ (zA rfl (zt rfl rfl rfl (zA rfl (o_gD rfl rfl rfl rfl (decide_eq_false (by omega)) (zA rfl (o_gD rfl rfl rfl rfl (decide_eq_false (by omega)) ?_))))))))
     refine zG rfl rfl yA (o_gD rfl rfl rfl rfl (decide_eq_false (by omega)) (zF rfl rfl rfl sh22 rfl (o_gD rfl rfl rfl rfl (decide_eq_false (by omega)) (yZ rfl ty22 rfl (List.length_map _) ?_))))
     refine o_gD rfl rfl rfl rfl (decide_eq_false (by omega)) (o_geq rfl rfl rfl (zQ rfl rfl (decide_eq_false (by omega)) ?_))
     refine zB ?_
     refine zM [(2,.box 0 0),(4,.box 1 0),(16,.lst .ro 1 (yc l)),(17,.int .i64 ↑(List.length l)),(18,.int .i64 ↑n),(25,.int .i64 y),(26,.box 0 0),(27,.lst .ro 2 (zS t.heard)),(28,.int .i64 ↑t.heard.length),(29,.bool (decide (↑t.heard.length≤y))),(30,.bool (decide (↑t.heard.length≤y)))] ([SB.box t.cs,SB.box z6]) (.c4 rfl rfl rfl rfl (.c4 rfl rfl rfl rfl (.c2 rfl rfl (.cons rfl (.nil rfl))))) rfl fun fr=>?_
     refine k_cF rfl (decide_eq_false (by omega)) (zW (k_region ?_))
     refine o_add rfl rfl rfl (by unfold I64;omega) (zA rfl (zB ?_))
     exact⟨k - 1,by omega,n+1,by omega,wd hy hall (by simp;omega),rfl,.c4 rfl rfl rfl rfl (.cons rfl (.nil rfl))⟩
  ·have hn:n=l.length:=by omega
   subst hn
   rw[List.take_length]at hall
   cases htb:tunB t (zp t)with
   |false=>
    have e:askE t l=12:=by unfold askE;rw[hv,hall,htb];rfl
    have e2:askC t l=z6:=by unfold askC;rw[e];rfl
    rw[e,e2]
    rw[htb]at q65
    refine kQ (zt rfl rfl rfl (zB (k_seq (k_cF rfl (decide_eq_false (by omega)) (yp (kQ (zK rfl rfl rfl sh28 rfl (zX rfl q72 (.lrefl _) ?_))))))))
    refine zV rfl ze84 ?_
    refine zN rfl rfl sh84 rfl rfl rfl rfl rfl ?_
    refine zB ?_
    refine zM [(4,.box 1 0),(9,.box 2 0)] ([SB.box t.cs,SB.box z6,SB.box [.lst .ro 2 (zS t.heard),.lst .ro 2 (yg t.scales),.lst .ro 2 (zS t.pairs),.int .i64 t.lo,.int .i64 t.hi,.lst .ro 5 (jnsU (zp t))]]) (.c2 rfl rfl (.nil rfl)) rfl fun fr=>?_
    refine k_seq (kQ (zK rfl rfl rfl sh84 rfl (zX rfl (q65) (.lrefl _) (o_not rfl rfl (zB (k_cT rfl rfl ?_))))))
    refine kQ (yP rfl ze84 pl84 rfl rfl ?_)
    refine zN rfl rfl sh84 rfl rfl rfl rfl rfl ?_
    refine zC rfl (zB (ze ?_))
    refine⟨.inr rfl,_,.cons _ _ _ _ (.cellN 4 84 _ _ _ _ rfl rfl sh84 rfl) (.cons _ _ _ _ (.tmp 5) .nil),?_⟩
    exact .refl _
   |true=>
    have e:askE t l=0:=by unfold askE;rw[hv,hall,htb];rfl
    have e2:askC t l=setC t (zp t):=by unfold askC;rw[e];rfl
    rw[e,e2]
    rw[htb]at q65
    refine kQ (zt rfl rfl rfl (zB (k_seq (k_cF rfl (decide_eq_false (by omega)) (yp (kQ (zK rfl rfl rfl sh28 rfl (zX rfl q72 (.lrefl _) ?_))))))))
    refine zV rfl ze84 ?_
    refine zN rfl rfl sh84 rfl rfl rfl rfl rfl ?_
    refine zB ?_
    refine zM [(4,.box 1 0),(9,.box 2 0)] ([SB.box t.cs,SB.box z6,SB.box [.lst .ro 2 (zS t.heard),.lst .ro 2 (yg t.scales),.lst .ro 2 (zS t.pairs),.int .i64 t.lo,.int .i64 t.hi,.lst .ro 5 (jnsU (zp t))]]) (.c2 rfl rfl (.nil rfl)) rfl fun fr=>?_
    refine k_seq (kQ (zK rfl rfl rfl sh84 rfl (zX rfl (q65) (.lrefl _) (o_not rfl rfl (zB (k_cF rfl rfl ?_))))))
    refine zW (kQ (zK rfl rfl rfl sh84 rfl (zN rfl rfl sh84 rfl rfl rfl rfl rfl ?_)))
    refine zC rfl (zB (ze ?_))
    refine⟨.inr rfl,_,.cons _ _ _ _ (.cellN 4 84 _ _ _ _ rfl rfl sh84 rfl) (.cons _ _ _ _ (.tmp 5) .nil),?_⟩
    exact .refl _
end
end Go.Proofs.Ytinhcdijbcamaaa.tuneNarrower
