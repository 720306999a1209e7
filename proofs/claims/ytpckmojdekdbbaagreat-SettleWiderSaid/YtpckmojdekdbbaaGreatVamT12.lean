import Derived.Test.YtpckmojdekdbbaaGreatVamT11
set_option linter.unusedVariables false
set_option linter.unusedSimpArgs false
set_option linter.constructorNameAsVariable false
namespace Go.Proofs.YtpckmojdekdbbaaGreat.settles
open Vam
section
variable {z:Zt}
def wdS(a b:Sp):Prop:=b.1≤a.1∧a.2≤b.2
theorem wdS.refl(a:Sp):wdS a a:=⟨Int.le_refl _,Int.le_refl _⟩
theorem set_getD{α:Type}(l:List α)(i j:Nat)(x d:α):((l.set i x)[j]?).getD d=if j=i∧i<l.length then x else(l[j]?).getD d:=by
 by_cases e:j=i
 ·subst e
  by_cases h:j<l.length
  ·rw[List.getElem?_set_self h,if_pos ⟨rfl,h⟩];rfl
  ·rw[if_neg (by omega),List.getElem?_eq_none (by rw[List.length_set];omega),List.getElem?_eq_none (by omega)]
 ·rw[List.getElem?_set_ne (fun h=>e h.symm),if_neg (by omega)]
theorem mem_set{α:Type}{l:List α}{i:Nat}{x y:α}(h:y∈l.set i x):y=x∨y∈l:=by
 rcases List.mem_or_eq_of_mem_set h with h|h
 ·exact .inr h
 ·exact .inl h
def Zt.kst(z:Zt)(i:Nat)(x:Ky):Zt:={z with keys:=z.keys.set i x}
theorem kst_key(z:Zt)(i:Nat)(x:Ky)(k:Nat):(z.kst i x).key k=if k=i∧i<z.keys.length then x else z.key k:=by
 unfold Zt.key Zt.kst
 exact set_getD _ _ _ _ _
theorem fil_set{k y:Int}{f g:Fl}(h1:g.yr=f.yr)(h2:g.ky=f.ky)(h3:wdS f.bs g.bs):∀(l:List Fl) (i:Nat) (a b:Sp),l[i]? =some f→wdS a b→wdS (filS l k y a) (filS (l.set i g) k y b):=by
 have same:∀(l:List Fl) (a b:Sp),wdS a b→wdS (filS l k y a) (filS l k y b):=by
  intro l
  induction l with
  |nil=>intro a b h;exact h
  |cons x l ih=>
   intro a b h
   show wdS (filS l k y (if x.ky=k∧x.yr=y then zAa a x.bs else a)) (filS l k y (if x.ky=k∧x.yr=y then zAa b x.bs else b))
   by_cases c:x.ky=k∧x.yr=y
   ·rw[if_pos c,if_pos c];exact ih _ _ ⟨by have:=h.1;unfold zAa;simp only;omega,by have:=h.2;unfold zAa;simp only;omega⟩
   ·rw[if_neg c,if_neg c];exact ih _ _ h
 intro l
 induction l with
 |nil=>intro i a b h;simp at h
 |cons x l ih=>
  intro i a b h hab
  cases i with
  |zero=>
   simp only[List.getElem?_cons_zero,Option.some.injEq]at h
   subst h
   show wdS (filS l k y (if x.ky=k∧x.yr=y then zAa a x.bs else a)) (filS l k y (if g.ky=k∧g.yr=y then zAa b g.bs else b))
   rw[h1,h2]
   have h3a:=h3.1
   have h3b:=h3.2
   by_cases c:x.ky=k∧x.yr=y
   ·rw[if_pos c,if_pos c];exact same _ _ _ ⟨by have:=hab.1;unfold zAa;simp only;omega,by have:=hab.2;unfold zAa;simp only;omega⟩
   ·rw[if_neg c,if_neg c];exact same _ _ _ hab
  |succ i=>
   have h:l[i]? =some f:=by simpa using h
   show wdS (filS l k y (if x.ky=k∧x.yr=y then zAa a x.bs else a)) (filS (l.set i g) k y (if x.ky=k∧x.yr=y then zAa b x.bs else b))
   by_cases c:x.ky=k∧x.yr=y
   ·rw[if_pos c,if_pos c];exact ih _ _ _ h ⟨by have:=hab.1;unfold zAa;simp only;omega,by have:=hab.2;unfold zAa;simp only;omega⟩
   ·rw[if_neg c,if_neg c];exact ih _ _ _ h hab
structure Wid(z w:Zt):Prop where
 ok:ZOk w
 y:z.yrs=w.yrs
 n:z.keys.length=w.keys.length
 r:∀k r,k<z.keys.length→Row z k r→Row w k r
theorem grw_wd{w:Zt}{k y:Nat}(h1:wdS (z.key k).rt (w.key k).rt)(h2:wdS (filS z.files k y (0,0)) (filS w.files k y (0,0))):wdS (grwS z k y) (grwS w k y):=by
 have a1:=h1.1
 have a2:=h1.2
 have b1:=h2.1
 have b2:=h2.2
 unfold grwS zAa wdS
 simp only
 omega
theorem row_wd{w:Zt}{k:Nat}{r:Nat→Int}(hr:Row z k r)(hy:z.yrs=w.yrs)(hb:wdS (z.key k).bg (w.key k).bg)(hg:∀y,wdS (grwS z k y) (grwS w k y))(hl:∀x∈w.looks,x.ky=k→∃o∈z.looks,o.ky=k∧o.yr=x.yr∧o.rd=x.rd∧o.er≤x.er):Row w k r:=by
 refine⟨?_,fun y h=>?_,fun x hx hk=>?_⟩
 ·have:=hr.b;have:=hb.1;have:=hb.2;omega
 ·have:=hr.g y (by rw[hy];exact h);have:=(hg y).1;have:=(hg y).2;omega
 ·obtain⟨o,ho,h1,h2,h3,h4⟩:=hl x hx hk
  have:=hr.l o ho h1
  rw[h2,h3]at this;omega
theorem key_self(z:Zt){i:Nat}(hi:i<z.keys.length):z.kst i (z.key i)=z:=by
 unfold Zt.kst Zt.key
 rw[List.getElem?_eq_getElem hi]
 show {z with keys:=z.keys.set i z.keys[i]}=z
 rw[List.set_getElem_self]
theorem wid_self(h:ZOk z):Wid z z:=⟨h,rfl,rfl,fun _ _ _ hr=>hr⟩
theorem kst_ok(h:ZOk z)(i:Nat){x:Ky}(hx:ww 5000 20000 x.bg∧ww (-50) 50 x.rt∧(0≤x.dn∧x.dn≤1000)∧(0≤x.up∧x.up≤1000)):ZOk (z.kst i x):=by
 have hl:(z.kst i x).keys.length=z.keys.length:=List.length_set ..
 refine⟨h.y,by rw[hl];exact h.k,by rw[hl];exact h.s,h.f,h.l,fun y hy=>?_,h.ss,fun y hy=>?_,fun y hy=>?_⟩
 ·rcases mem_set hy with rfl|hy
  ·exact hx
  ·exact h.kk y hy
 ·rw[hl];exact h.ff y hy
 ·rw[hl];exact h.ll y hy
theorem wid_key(h:ZOk z){i:Nat}(hi:i<z.keys.length){x:Ky}(hx:ww 5000 20000 x.bg∧ww (-50) 50 x.rt∧(0≤x.dn∧x.dn≤1000)∧(0≤x.up∧x.up≤1000))(h1:wdS (z.key i).bg x.bg)(h2:wdS (z.key i).rt x.rt):Wid z (z.kst i x):=by
 refine⟨kst_ok h i hx,rfl,(List.length_set ..).symm,fun k r hk hr=>?_⟩
 have key:wdS (z.key k).bg ((z.kst i x).key k).bg∧wdS (z.key k).rt ((z.kst i x).key k).rt:=by
  rw[kst_key]
  by_cases c:k=i∧i<z.keys.length
  ·rw[if_pos c,c.1];exact⟨h1,h2⟩
  ·rw[if_neg c];exact⟨wdS.refl _,wdS.refl _⟩
 exact row_wd hr rfl key.1 (fun y=>grw_wd key.2 (wdS.refl _)) fun o ho hk=>⟨o,ho,hk,rfl,rfl,Int.le_refl _⟩
theorem wid_rt(h:ZOk z){i:Nat}(hi:i<z.keys.length){b:Int}(hb:0≤b):Wid z (z.kst i {z.key i with rt:=(max (-50) ((z.key i).rt.1 - b),min 50 ((z.key i).rt.2+b))}):=by
 have hk:=h.at hi
 have h2:=hk.2.1
 unfold ww at h2
 refine wid_key h hi ⟨hk.1,?_,hk.2.2.1,hk.2.2.2⟩ (wdS.refl _) ?_
 ·unfold ww;simp only;omega
 ·unfold wdS;simp only;omega
theorem wid_bg(h:ZOk z){i:Nat}(hi:i<z.keys.length){b:Int}(hb:0≤b):Wid z (z.kst i {z.key i with bg:=(max 5000 ((z.key i).bg.1 - b),min 20000 ((z.key i).bg.2+b))}):=by
 have hk:=h.at hi
 have h2:=hk.1
 unfold ww at h2
 refine wid_key h hi ⟨?_,hk.2.1,hk.2.2.1,hk.2.2.2⟩ ?_ (wdS.refl _)
 ·unfold ww;simp only;omega
 ·unfold wdS;simp only;omega
theorem wid_file(h:ZOk z){i:Nat}{f:Fl}(hf:z.files[i]? =some f){b:Int}(hb:0≤b):Wid z {z with files:=z.files.set i {f with bs:=(max (-200) (f.bs.1 - b),min 200 (f.bs.2+b))}}:=by
 have hff:=h.ff f (List.mem_of_getElem? hf)
 have h2:=hff.2.2
 unfold ww at h2
 refine⟨⟨h.y,h.k,h.s,by show(List.set ..).length≤6;rw[List.length_set];exact h.f,h.l,h.kk,h.ss,fun x hx=>?_,h.ll⟩,rfl,rfl,fun k r _ hr=>?_⟩
 ·rcases mem_set hx with rfl|hx
  ·exact⟨hff.1,hff.2.1,by unfold ww;simp only;omega⟩
  ·exact h.ff x hx
 ·refine row_wd hr rfl (wdS.refl _) (fun y=>grw_wd (wdS.refl _) (fil_set (f:=f) (g:={f with bs:=(max (-200) (f.bs.1 - b),min 200 (f.bs.2+b))}) rfl rfl ?_ _ _ _ _ hf (wdS.refl _))) fun o ho hk=>⟨o,ho,hk,rfl,rfl,Int.le_refl _⟩
  unfold wdS;simp only;omega
theorem wid_look(h:ZOk z){i:Nat}{l:Lk}(hl:z.looks[i]? =some l){b:Int}(hb:0≤b):Wid z {z with looks:=z.looks.set i {l with er:=min 500 (l.er+b)}}:=by
 have hm:=List.mem_of_getElem? hl
 have hll:=h.ll l hm
 refine⟨⟨h.y,h.k,h.s,h.f,by show(List.set ..).length≤12;rw[List.length_set];exact h.l,h.kk,h.ss,h.ff,fun x hx=>?_⟩,rfl,rfl,fun k r _ hr=>?_⟩
 ·rcases mem_set hx with rfl|hx
  ·exact⟨hll.1,hll.2.1,hll.2.2.1,by simp only;omega⟩
  ·exact h.ll x hx
 ·refine row_wd hr rfl (wdS.refl _) (fun y=>wdS.refl _) fun x hx hk=>?_
  rcases mem_set hx with rfl|hx
  ·exact⟨l,hm,hk,rfl,rfl,by show l.er≤min 500 (l.er+b);omega⟩
  ·exact⟨x,hx,hk,rfl,rfl,Int.le_refl _⟩
theorem wid_law{w:Zt}(h:ZOk z)(hw:Wid z w){k y:Int}(hk:0≤k∧k<z.keys.length)(hy:0≤y∧y≤z.yrs):(wasE z k y=42∧(wasE w k y=42∨wasE w k y=0))∨(wasE z k y=0∧wasE w k y=0∧wdS (wasR z k y) (wasR w k y)):=by
 have hwk:=hw.n
 have hwy:=hw.y
 rcases wasE_ok h hk hy with h0|h0
 ·have h1:=was_wider h hw.ok hw.y hw.n hw.r h0
  exact .inr ⟨h0,h1.1,h1.2.1,h1.2.2⟩
 ·refine .inl ⟨h0,?_⟩
  rcases wasE_ok hw.ok (k:=k) (y:=y) (by omega) (by omega)with h1|h1
  ·exact .inr h1
  ·exact .inl h1
end
section
variable {is:FuncId→Bool}{orc:Known}{z:Zt}
theorem by62:Program.bytesOf Tryz.prog 62=56:=by kernel_rfl
theorem by64:Program.bytesOf Tryz.prog 64=32:=by kernel_rfl
theorem ty70:tyOf Tryz.prog 70=.array 4 3:=by kernel_rfl
theorem ap22_22:AppT Tryz.prog 22 22 62 7 56 ((.cons (.int .i64 0) (.cons (.int .i64 0) (.cons (.int .i64 0) (.cons (.int .i64 0) (.cons (.bool false) (.cons (.int .i64 0) (.cons (.int .i64 0) .nil))))))):V):=⟨ty22,⟨_,ty22⟩,cl62,by decide,by62,ze62,rfl⟩
theorem ap24_24:AppT Tryz.prog 24 24 64 4 32 ((.cons (.int .i64 0) (.cons (.int .i64 0) (.cons (.int .i64 0) (.cons (.int .i64 0) .nil)))):V):=⟨ty24,⟨_,ty24⟩,cl64,by decide,by64,ze64,rfl⟩
noncomputable def b10:Code:=(Tryz.f10.body).getD .skip
theorem body10:bodyOf Tryz.prog 10=some (218,b10,[.tmp 4]):=by kernel_rfl
theorem pure10:pureFn Tryz.prog 10=false:=by kernel_rfl
theorem US.app{st:List SB}{u u':UX}(w:US st u u')(m:List SB):US (st++m) u u':=by
 induction w with
 |refl u=>exact .refl u
 |lrefl us=>exact .lrefl us
 |agg cs cs' _ ih=>exact .agg _ _ ih
 |lcons u u' us us' _ _ i1 i2=>exact .lcons _ _ _ _ i1 i2
 |sl a off len z cs es h1 h2 h3 h4 h5=>exact .sl a off len z cs es (yW h1) h2 h3 h4 h5
theorem wK{α:Type}(f:α→U)(n:Nat)(hf:∀a,(zZ (f a)).length=n)(l:List α):(zT (l.map f)).length=l.length*n:=by
 rw[we (sz:=n) (fun e he=>by obtain⟨a,_,rfl⟩:=List.mem_map.1 he;exact hf a),List.length_map]
theorem flat_put{α:Type}(f:α→U)(n:Nat)(hf:∀a,(zZ (f a)).length=n)(l:List α){i:Nat}(hi:i<l.length)(x:α):(zT (l.map f)).take (i*n)++zZ (f x)++(zT (l.map f)).drop (i*n+n)=zT ((l.set i x).map f):=by
 have e1:∀m:List α,zT (m.map f)=m.flatMap fun a=>zZ (f a):=fun m=>by unfold zT;rw[List.flatMap_map]
 have hl:∀m:List α,(m.flatMap fun a=>zZ (f a)).length=m.length*n:=fun m=>by rw[←e1];exact wK f n hf m
 rw[e1,e1]
 have hs:l=l.take i++l[i]::l.drop (i+1):=by rw[←List.drop_eq_getElem_cons hi,List.take_append_drop]
 have ht:(l.take i).length=i:=by rw[List.length_take];omega
 have h2:l.set i x=l.take i++x::l.drop (i+1):=by
  rw[List.set_eq_take_append_cons_drop,if_pos hi]
 have hA:=hl (l.take i)
 rw[ht]at hA
 rw[h2,List.flatMap_append,List.flatMap_cons]
 conv=>lhs;rw[hs,List.flatMap_append,List.flatMap_cons]
 generalize ((l.take i).flatMap fun a=>zZ (f a))=A at*
 generalize ((l.drop (i+1)).flatMap fun a=>zZ (f a))=B
 have hx:=hf l[i]
 generalize zZ (f l[i])=C at*
 rw[←hA,List.take_left,show A.length+n=(A++C).length by rw[List.length_append,hx],←List.append_assoc A C B,List.drop_left,List.append_assoc]
theorem zAg{α:Type}(f:α→U)(n:Nat)(hf:∀a,(zZ (f a)).length=n)(l:List α){i:Nat}(hi:i<l.length)(x:α):(zT (l.map f)).take (0+(i:Int).toNat*n)++(zZ (f x))++(zT (l.map f)).drop (0+(i:Int).toNat*n+n)=zT ((l.set i x).map f):=by
 rw[Int.toNat_natCast,Nat.zero_add]
 exact flat_put f n hf l hi x
theorem kys_one(l:List Ky):(zT (kysU l)).all oneU=true:=by
 rw[List.all_eq_true]
 intro u hu
 obtain⟨e,he,hu⟩:=List.mem_flatMap.1 hu
 obtain⟨x,_,rfl⟩:=List.mem_map.1 he
 simp only[zZ,List.mem_cons,List.not_mem_nil,or_false]at hu
 rcases hu with rfl|rfl|rfl|rfl|rfl|rfl|rfl<;>rfl
theorem fls_one(l:List Fl):(zT (flsU l)).all oneU=true:=by
 rw[List.all_eq_true]
 intro u hu
 obtain⟨e,he,hu⟩:=List.mem_flatMap.1 hu
 obtain⟨x,_,rfl⟩:=List.mem_map.1 he
 simp only[zZ,List.mem_cons,List.not_mem_nil,or_false]at hu
 rcases hu with rfl|rfl|rfl|rfl<;>rfl
theorem zGv{l:List U}(h:∀u∈l,dg u=u):l.map dg=l:=by
 rw[←List.map_id l,List.map_map]
 exact List.map_congr_left fun u hu=>h u hu
theorem kys_dg(l:List Ky):(zT (kysU l)).map dg=zT (kysU l):=zGv fun u hu=>by
 obtain⟨e,he,hu⟩:=List.mem_flatMap.1 hu
 obtain⟨x,_,rfl⟩:=List.mem_map.1 he
 simp only[zZ,List.mem_cons,List.not_mem_nil,or_false]at hu
 rcases hu with rfl|rfl|rfl|rfl|rfl|rfl|rfl<;>rfl
theorem fls_dg(l:List Fl):(zT (flsU l)).map dg=zT (flsU l):=zGv fun u hu=>by
 obtain⟨e,he,hu⟩:=List.mem_flatMap.1 hu
 obtain⟨x,_,rfl⟩:=List.mem_map.1 he
 simp only[zZ,List.mem_cons,List.not_mem_nil,or_false]at hu
 rcases hu with rfl|rfl|rfl|rfl<;>rfl
theorem lks_dg(l:List Lk):(zT (lksU l)).map dg=zT (lksU l):=zGv fun u hu=>by
 obtain⟨e,he,hu⟩:=List.mem_flatMap.1 hu
 obtain⟨x,_,rfl⟩:=List.mem_map.1 he
 simp only[zZ,List.mem_cons,List.not_mem_nil,or_false]at hu
 rcases hu with rfl|rfl|rfl|rfl<;>rfl
theorem us_list{α:Type}(f:α→U)(n:Nat)(hf:∀a,(zZ (f a)).length=n){l:List α}{st:List SB}{a m:Nat}(h:st[a]? =some (.froz (zT (l.map f))))(hm:l.length=m):US st (.u (.sl a 0 m n)) (.u (.lst .ro n (l.map f))):=by
 have hl:=wK f n hf l
 refine .sl _ _ _ _ _ _ h (by rw[List.drop_zero,List.take_of_length_le (by rw[hl,hm];exact Nat.le_refl _)]) (fun e he=>by obtain⟨x,_,rfl⟩:=List.mem_map.1 he;exact hf x) (by rw[List.length_map];exact hm) (by rw[hl,hm];omega)
abbrev cel5(y:Int)(a b c d:U):List U:=[.int .i64 y,a,b,c,d]
set_option maxHeartbeats 16000000 in
theorem ret10(hi:Off is)(z:Zt)(n1 n2 n3 n4:Int)(r21:RetP Tryz.prog is orc 21 [] (.bool true)):RetP Tryz.prog is orc 10 [z.u,.agg [.int .i64 n1,.int .i64 n2,.int .i64 n3,.int .i64 n4]] (.bool true):=by
 refine zEH body10 pure10 rfl rfl (fun u hu=>by
  simp only[List.mem_cons,List.not_mem_nil,or_false]at hu
  rcases hu with rfl|rfl
  ·exact⟨(dat_z z 5).nb,fun v=>rfl⟩
  ·exact⟨(Dat.agg 6 _ (zGx (.int 5 _ _) (.int 5 _ _) (.int 5 _ _) (.int 5 _ _))).nb,fun v=>rfl⟩) (NB.bool _) ?_
 have q36:=ret36 (orc:=orc) hi z
 cases hv:zAR z with
 |false=>
  rw[hv]at q36
  refine kQ (yl rfl rfl (yl rfl rfl (zE rfl (zA ?_))))
  refine zO [(2,U.box 0 0),(3,U.box 1 0)] ([SB.box [.int .i64 (Zt.yrs z),.lst .ro 7 (kysU (Zt.keys z)),.lst .ro 2 (spsU (Zt.steps z)),.lst .ro 4 (flsU (Zt.files z)),.lst .ro 4 (lksU (Zt.looks z))],SB.box [.int .i64 n1,.int .i64 n2,.int .i64 n3,.int .i64 n4]]) (.n2 rfl) rfl fun fr=>?_
  refine k_seq (kQ (kC sh27 rfl (za rfl (q36) (.lrefl _) (zGZ rfl rfl (zA (k_cT rfl rfl ?_))))))
  refine kQ (za rfl (r21) (.lrefl _) (zE rfl (zA (yP ?_))))
  refine⟨.inr rfl,_,.cons _ _ _ _ (.tmp 4) .nil,?_⟩
  exact .refl _
 |true=>
  rw[hv]at q36
  have h:=zBq.1 hv
  have hy:=h.y
  have hk:=h.k
  have q40a:=ret40 (orc:=orc) hi n3 20 (by omega)
  have q40b:=ret40 (orc:=orc) hi n1 4 (by omega)
  have q40c:=ret40 (orc:=orc) hi n2 z.keys.length (by omega)
  have hby0:=Int.emod_nonneg n3 (show(20:Int)≠0 by omega)
  have hby1:=Int.emod_lt_of_pos n3 (show 0<(20:Int) by omega)
  have hkey0:=Int.emod_nonneg n2 (show(z.keys.length:Int)≠0 by omega)
  have hkey1:=Int.emod_lt_of_pos n2 (show 0<(z.keys.length:Int) by omega)
  obtain⟨i,hi0⟩:∃i:Nat,n2 % (z.keys.length:Int)=i:=⟨(n2 % (z.keys.length:Int)).toNat,by omega⟩
  have hil:i<z.keys.length:=by omega
  rw[hi0]at q40c
  generalize n3 % 20=by' at*
  generalize n1 % 4=kd at*
  have hkys:(kysU z.keys)[i]? =some (z.key i).u:=by
   rw[List.getElem?_map]
   unfold Zt.key
   rw[List.getElem?_eq_getElem hil];rfl
  refine kQ (yl rfl rfl (yl rfl rfl (zE rfl (zA ?_))))
  refine zO [(2,U.box 0 0),(3,U.box 1 0)] ([SB.box [.int .i64 (Zt.yrs z),.lst .ro 7 (kysU (Zt.keys z)),.lst .ro 2 (spsU (Zt.steps z)),.lst .ro 4 (flsU (Zt.files z)),.lst .ro 4 (lksU (Zt.looks z))],SB.box [.int .i64 n1,.int .i64 n2,.int .i64 n3,.int .i64 n4]]) (.n2 rfl) rfl fun fr=>?_
  refine k_seq (kQ (kC sh27 rfl (za rfl (q36) (.lrefl _) (zGZ rfl rfl (zA (k_cF rfl rfl ?_))))))
  refine zz (kQ (kC sh27 rfl (zl rfl ze27 ?_)))
  refine zR rfl rfl sh27 rfl rfl rfl rfl rfl ?_
  refine zA ?_
  refine zO [(2,U.box 0 0),(3,U.box 1 0),(5,U.box 2 0)] ([SB.box [.int .i64 (Zt.yrs z),.lst .ro 7 (kysU (Zt.keys z)),.lst .ro 2 (spsU (Zt.steps z)),.lst .ro 4 (flsU (Zt.files z)),.lst .ro 4 (lksU (Zt.looks z))],SB.box [.int .i64 n1,.int .i64 n2,.int .i64 n3,.int .i64 n4],SB.box [.int .i64 (Zt.yrs z),.lst .ro 7 (kysU (Zt.keys z)),.lst .ro 2 (spsU (Zt.steps z)),.lst .ro 4 (flsU (Zt.files z)),.lst .ro 4 (lksU (Zt.looks z))]]) (.n3 rfl) rfl fun fr=>?_
  refine k_seq (zAz [.plain,.read true,.read false,.plain,.read true,.plain,.plain,.plain] (by kernel_rfl) (by kernel_rfl) (by kernel_rfl) ?_)
  refine zF (zAT rfl ty70 rfl rfl (by omega) (by omega) cl3 (zA rfl)) ?_
  refine zQ rfl (kB sh3 rfl (zA rfl)) (yS rfl (q40a) (.int _ _) (.lrefl _) ?_)
  refine zF (zAT rfl ty70 rfl rfl (by omega) (by omega) cl3 (zA rfl)) ?_
  refine zQ rfl (kB sh3 rfl (zA rfl)) (zF (za rfl (q40b) (.lrefl _) (zA rfl)) ?_)
  refine zF (zE rfl (zA rfl)) ?_
  refine zF (zE rfl (zA rfl)) ?_
  refine zDD ?_
  refine kQ (zAT rfl ty70 rfl rfl (by omega) (by omega) cl3 ?_)
  refine kB sh3 rfl (kz rfl yF (kB sh22 rfl (yO rfl ty22 rfl (List.length_map _) ?_)))
  refine za rfl (q40c) (.lrefl _) (zE rfl (zA ?_))
  refine zO [(2,U.box 0 0),(3,U.box 1 0),(5,U.box 2 0),(6,.int .i64 by'),(7,.int .i64 kd),(8,.int .i64 ↑i)] ([SB.box [.int .i64 (Zt.yrs z),.lst .ro 7 (kysU (Zt.keys z)),.lst .ro 2 (spsU (Zt.steps z)),.lst .ro 4 (flsU (Zt.files z)),.lst .ro 4 (lksU (Zt.looks z))],SB.box [.int .i64 n1,.int .i64 n2,.int .i64 n3,.int .i64 n4],SB.box [.int .i64 (Zt.yrs z),.lst .ro 7 (kysU (Zt.keys z)),.lst .ro 2 (spsU (Zt.steps z)),.lst .ro 4 (flsU (Zt.files z)),.lst .ro 4 (lksU (Zt.looks z))]]) (.n6 rfl) rfl fun fr=>?_
  refine kQ (zEL (es:=[]) rfl ty22 ze62 cl62 rfl rfl rfl rfl rfl rfl rfl rfl ?_)
  refine kz rfl yF (kB sh22 rfl (zEM rfl ap22_22 rfl rfl (.inl rfl) (.inl rfl) (kys_one _) (kys_dg _) (List.length_map _) (by omega) (by omega) ?_))
  refine kz rfl yF (zBE rfl rfl sh22 rfl rfl (zA ?_))
  refine zO [(2,U.box 0 0),(3,U.box 1 0),(5,U.box 2 0),(6,.int .i64 by'),(7,.int .i64 kd),(8,.int .i64 ↑i)] ([SB.box [.int .i64 (Zt.yrs z),.lst .ro 7 (kysU (Zt.keys z)),.lst .ro 2 (spsU (Zt.steps z)),.lst .ro 4 (flsU (Zt.files z)),.lst .ro 4 (lksU (Zt.looks z))],SB.box [.int .i64 n1,.int .i64 n2,.int .i64 n3,.int .i64 n4],SB.box [.int .i64 (Zt.yrs z),U.sl 3 0 (List.length (Zt.keys z)) 7,.lst .ro 2 (spsU (Zt.steps z)),.lst .ro 4 (flsU (Zt.files z)),.lst .ro 4 (lksU (Zt.looks z))],SB.box (zT (kysU (Zt.keys z)))]) (.n6 rfl) rfl fun fr=>?_
  refine kQ (kz rfl yF (kB sh22 rfl (zC rfl (zAJ (u:=(z.key i).u) rfl ty22 rfl rfl (Int.natCast_nonneg _) hkys cl62 ?_))))
  refine yG rfl rfl sh62 rfl ?_
  refine zl rfl ze62 ?_
  refine zR rfl rfl sh62 rfl rfl rfl rfl rfl ?_
  refine zA ?_
  refine zO [(2,U.box 0 0),(3,U.box 1 0),(5,U.box 2 0),(6,.int .i64 by'),(7,.int .i64 kd),(8,.int .i64 ↑i),(9,U.box 4 0)] ([SB.box [.int .i64 (Zt.yrs z),.lst .ro 7 (kysU (Zt.keys z)),.lst .ro 2 (spsU (Zt.steps z)),.lst .ro 4 (flsU (Zt.files z)),.lst .ro 4 (lksU (Zt.looks z))],SB.box [.int .i64 n1,.int .i64 n2,.int .i64 n3,.int .i64 n4],SB.box [.int .i64 (Zt.yrs z),U.sl 3 0 (List.length (Zt.keys z)) 7,.lst .ro 2 (spsU (Zt.steps z)),.lst .ro 4 (flsU (Zt.files z)),.lst .ro 4 (lksU (Zt.looks z))],SB.box (zT (kysU (Zt.keys z))),SB.box [.int .i64 (Prod.fst (Ky.bg (Zt.key z i))),.int .i64 (Prod.snd (Ky.bg (Zt.key z i))),.int .i64 (Prod.fst (Ky.rt (Zt.key z i))),.int .i64 (Prod.snd (Ky.rt (Zt.key z i))),U.bool (Ky.fx (Zt.key z i)),.int .i64 (Ky.dn (Zt.key z i)),.int .i64 (Ky.up (Zt.key z i))]]) (.n7 rfl) rfl fun fr=>?_
  refine k_cut (fun s1=>∃(key:Nat) (ky:Ky) (fs:List Fl) (ls:List Lk) (cf cl:U) (e:List SB),key<z.keys.length∧Wid z ⟨z.yrs,z.keys.set key ky,z.steps,fs,ls⟩∧((e=[]∧cf=.lst .ro 4 (flsU fs)∧cl=.lst .ro 4 (lksU ls))∨(∃b,e=[SB.box b,.box (zT (flsU fs))]∧cf=.sl 6 0 fs.length 4∧cl=.lst .ro 4 (lksU ls))∨(∃b,e=[SB.box b,.box (zT (lksU ls))]∧cf=.lst .ro 4 (flsU fs)∧cl=.sl 6 0 ls.length 4))∧s1.st=[SB.box z.cs,.box [.int .i64 n1,.int .i64 n2,.int .i64 n3,.int .i64 n4],.box (cel5 z.yrs (.sl 3 0 z.keys.length 7) (.lst .ro 2 (spsU z.steps)) cf cl),.box (zT (kysU z.keys)),.box ky.cs]++e∧Holds s1 [(2,.box 0 0),(3,.box 1 0),(5,.box 2 0),(8,.int .i64 key),(9,.box 4 0)]) ?_ fun s4 hM=>?_
  ·by_cases k0:kd=0
   ·have kn:=kG k0
    have q41:=ret41 (orc:=orc) hi (max (-50) ((z.key i).rt.1 - by')) (min 50 ((z.key i).rt.2+by'))
    have hkt:=(h.at hil).2.1
    unfold ww at hkt
    refine kQ (zC rfl (ku rfl (zA (k_cT rfl (by assumption) (k_region (kz rfl zEx (kz rfl yp (kB sh3 rfl (zC rfl ?_)))))))))
    refine zDr rfl rfl rfl (by unfold I64;omega) (o_max rfl rfl rfl ?_)
    refine kz rfl zEx (kz rfl wU (kB sh3 rfl ?_))
    refine zt [(2,U.box 0 0),(3,U.box 1 0),(5,U.box 2 0),(6,.int .i64 by'),(8,.int .i64 ↑i),(9,U.box 4 0),(53,.int .i64 (Max.max (-50:Int) (Prod.fst (Ky.rt (Zt.key z i)) - by'))),(56,.int .i64 (Prod.snd (Ky.rt (Zt.key z i))))] [] ([SB.box [.int .i64 (Zt.yrs z),.lst .ro 7 (kysU (Zt.keys z)),.lst .ro 2 (spsU (Zt.steps z)),.lst .ro 4 (flsU (Zt.files z)),.lst .ro 4 (lksU (Zt.looks z))],SB.box [.int .i64 n1,.int .i64 n2,.int .i64 n3,.int .i64 n4],SB.box [.int .i64 (Zt.yrs z),U.sl 3 0 (List.length (Zt.keys z)) 7,.lst .ro 2 (spsU (Zt.steps z)),.lst .ro 4 (flsU (Zt.files z)),.lst .ro 4 (lksU (Zt.looks z))],SB.box (zT (kysU (Zt.keys z))),SB.box [.int .i64 (Prod.fst (Ky.bg (Zt.key z i))),.int .i64 (Prod.snd (Ky.bg (Zt.key z i))),.int .i64 (Prod.fst (Ky.rt (Zt.key z i))),.int .i64 (Prod.snd (Ky.rt (Zt.key z i))),U.bool (Ky.fx (Zt.key z i)),.int .i64 (Ky.dn (Zt.key z i)),.int .i64 (Ky.up (Zt.key z i))]]) (.n8 rfl) rfl rfl fun fr=>?_
    refine zC rfl ?_
    refine kA rfl (by unfold I64;omega) (o_min rfl rfl rfl ?_)
    refine za rfl (q41) (.lrefl _) (kz rfl zEx (zR rfl rfl sh35 rfl rfl rfl rfl rfl ?_))
    refine zA ?_
    exact⟨rfl,i,_,z.files,z.looks,_,_,[],hil,wid_rt h hil hby0,.inl ⟨rfl,rfl,rfl⟩,rfl,.c4 rfl rfl rfl rfl (.n1 rfl)⟩
   ·have kn:=kH k0
    by_cases k1:kd=1
    ·have kn1:=kG k1
     have q41:=ret41 (orc:=orc) hi (max 5000 ((z.key i).bg.1 - by')) (min 20000 ((z.key i).bg.2+by'))
     have hkt:=(h.at hil).1
     unfold ww at hkt
     refine kQ (zC rfl (ku rfl (zA (k_cF rfl (by assumption) (kQ (zC rfl (ku rfl (zA (k_cT rfl (by assumption) (k_region (kz rfl zEy (kz rfl yp (kB sh3 rfl (zC rfl ?_))))))))))))))
     refine zDr rfl rfl rfl (by unfold I64;omega) (o_max rfl rfl rfl ?_)
     refine kz rfl zEy (kz rfl wU (kB sh3 rfl ?_))
     refine zt [(2,U.box 0 0),(3,U.box 1 0),(5,U.box 2 0),(6,.int .i64 by'),(8,.int .i64 ↑i),(9,U.box 4 0),(69,.int .i64 (Max.max (5000:Int) (Prod.fst (Ky.bg (Zt.key z i)) - by'))),(72,.int .i64 (Prod.snd (Ky.bg (Zt.key z i))))] [] ([SB.box [.int .i64 (Zt.yrs z),.lst .ro 7 (kysU (Zt.keys z)),.lst .ro 2 (spsU (Zt.steps z)),.lst .ro 4 (flsU (Zt.files z)),.lst .ro 4 (lksU (Zt.looks z))],SB.box [.int .i64 n1,.int .i64 n2,.int .i64 n3,.int .i64 n4],SB.box [.int .i64 (Zt.yrs z),U.sl 3 0 (List.length (Zt.keys z)) 7,.lst .ro 2 (spsU (Zt.steps z)),.lst .ro 4 (flsU (Zt.files z)),.lst .ro 4 (lksU (Zt.looks z))],SB.box (zT (kysU (Zt.keys z))),SB.box [.int .i64 (Prod.fst (Ky.bg (Zt.key z i))),.int .i64 (Prod.snd (Ky.bg (Zt.key z i))),.int .i64 (Prod.fst (Ky.rt (Zt.key z i))),.int .i64 (Prod.snd (Ky.rt (Zt.key z i))),U.bool (Ky.fx (Zt.key z i)),.int .i64 (Ky.dn (Zt.key z i)),.int .i64 (Ky.up (Zt.key z i))]]) (.n8 rfl) rfl rfl fun fr=>?_
     refine zC rfl ?_
     refine kA rfl (by unfold I64;omega) (o_min rfl rfl rfl ?_)
     refine za rfl (q41) (.lrefl _) (kz rfl zEy (zR rfl rfl sh35 rfl rfl rfl rfl rfl ?_))
     refine zA ?_
     exact⟨rfl,i,_,z.files,z.looks,_,_,[],hil,wid_bg h hil hby0,.inl ⟨rfl,rfl,rfl⟩,rfl,.c4 rfl rfl rfl rfl (.n1 rfl)⟩
    ·have kn1:=kH k1
     by_cases k2:kd=2∧0<z.files.length
     ·have kn2:=kG k2.1
      have kn3:decide ((0:Int)<z.files.length)=true:=kG (by omega)
      have hf6:=h.f
      have q40d:=ret40 (orc:=orc) hi n2 z.files.length (by omega)
      have hf0:=Int.emod_nonneg n2 (show(z.files.length:Int)≠0 by omega)
      have hf1:=Int.emod_lt_of_pos n2 (show 0<(z.files.length:Int) by omega)
      obtain⟨j,hj⟩:∃j:Nat,n2 % (z.files.length:Int)=j:=⟨(n2 % (z.files.length:Int)).toNat,by omega⟩
      rw[hj]at q40d
      obtain⟨f,hf⟩:∃f,z.files[j]? =some f:=⟨z.files[j]'(by omega),List.getElem?_eq_getElem (by omega)⟩
      have hff:=h.ff f (List.mem_of_getElem? hf)
      have hfu:(flsU z.files)[j]? =some f.u:=by rw[List.getElem?_map,hf];rfl
      obtain⟨k,hkf⟩:∃k:Nat,f.ky=k:=⟨f.ky.toNat,by omega⟩
      have hku:(kysU z.keys)[k]? =some (z.key k).u:=by
       rw[List.getElem?_map]
       unfold Zt.key
       rw[List.getElem?_eq_getElem (show k<z.keys.length by omega)];rfl
      have hgd:=hff.2.2
      unfold ww at hgd
      have q41:=ret41 (orc:=orc) hi (max (-200) (f.bs.1 - by')) (min 200 (f.bs.2+by'))
      have hwid:=wid_file h hf hby0
      have hku2:(kysU z.keys)[f.ky.toNat]? =some (z.key k).u:=by rw[hkf,Int.toNat_natCast];exact hku
      refine kQ (zC rfl (ku rfl (zA (k_cF rfl (by assumption) (kQ (zC rfl (ku rfl (zA (k_cF rfl (by assumption) (kQ (zC rfl (ku rfl (zC rfl (kh rfl (by assumption) (kz rfl wZ ?_)))))))))))))))
      refine kh rfl (by assumption) (kB sh24 rfl (kh rfl (by assumption) (yO rfl ty24 rfl (List.length_map _) ?_)))
      refine kh rfl (by assumption) (o_gtr rfl rfl rfl (wF rfl rfl (by assumption) ?_))
      refine zA ?_
      refine zO [(2,U.box 0 0),(3,U.box 1 0),(5,U.box 2 0),(6,.int .i64 by'),(8,.int .i64 ↑i),(9,U.box 4 0),(85,U.bool (decide ((0:Int)< ↑(List.length (Zt.files z)))))] ([SB.box [.int .i64 (Zt.yrs z),.lst .ro 7 (kysU (Zt.keys z)),.lst .ro 2 (spsU (Zt.steps z)),.lst .ro 4 (flsU (Zt.files z)),.lst .ro 4 (lksU (Zt.looks z))],SB.box [.int .i64 n1,.int .i64 n2,.int .i64 n3,.int .i64 n4],SB.box [.int .i64 (Zt.yrs z),U.sl 3 0 (List.length (Zt.keys z)) 7,.lst .ro 2 (spsU (Zt.steps z)),.lst .ro 4 (flsU (Zt.files z)),.lst .ro 4 (lksU (Zt.looks z))],SB.box (zT (kysU (Zt.keys z))),SB.box [.int .i64 (Prod.fst (Ky.bg (Zt.key z i))),.int .i64 (Prod.snd (Ky.bg (Zt.key z i))),.int .i64 (Prod.fst (Ky.rt (Zt.key z i))),.int .i64 (Prod.snd (Ky.rt (Zt.key z i))),U.bool (Ky.fx (Zt.key z i)),.int .i64 (Ky.dn (Zt.key z i)),.int .i64 (Ky.up (Zt.key z i))]]) (.n7 rfl) rfl fun fr=>?_
      refine k_cT rfl (by assumption) (kQ (zAT rfl ty70 rfl rfl (by omega) (by omega) cl3 ?_))
      refine kB sh3 rfl (kz rfl wZ (kB sh24 rfl (yO rfl ty24 rfl (List.length_map _) ?_)))
      refine za rfl (q40d) (.lrefl _) (zE rfl (zA (kQ (kz rfl wZ (kB sh24 rfl (zC rfl (zAJ (u:=f.u) rfl ty24 rfl rfl (Int.natCast_nonneg _) hfu cl64 ?_)))))))
      refine yG rfl rfl sh64 rfl ?_
      refine zl rfl ze64 ?_
      refine zR rfl rfl sh64 rfl rfl rfl rfl rfl ?_
      refine zA ?_
      refine zO [(2,U.box 0 0),(3,U.box 1 0),(5,U.box 2 0),(6,.int .i64 by'),(9,U.box 4 0),(10,.int .i64 ↑j),(11,U.box 5 0)] ([SB.box [.int .i64 (Zt.yrs z),.lst .ro 7 (kysU (Zt.keys z)),.lst .ro 2 (spsU (Zt.steps z)),.lst .ro 4 (flsU (Zt.files z)),.lst .ro 4 (lksU (Zt.looks z))],SB.box [.int .i64 n1,.int .i64 n2,.int .i64 n3,.int .i64 n4],SB.box [.int .i64 (Zt.yrs z),U.sl 3 0 (List.length (Zt.keys z)) 7,.lst .ro 2 (spsU (Zt.steps z)),.lst .ro 4 (flsU (Zt.files z)),.lst .ro 4 (lksU (Zt.looks z))],SB.box (zT (kysU (Zt.keys z))),SB.box [.int .i64 (Prod.fst (Ky.bg (Zt.key z i))),.int .i64 (Prod.snd (Ky.bg (Zt.key z i))),.int .i64 (Prod.fst (Ky.rt (Zt.key z i))),.int .i64 (Prod.snd (Ky.rt (Zt.key z i))),U.bool (Ky.fx (Zt.key z i)),.int .i64 (Ky.dn (Zt.key z i)),.int .i64 (Ky.up (Zt.key z i))],SB.box [.int .i64 (Fl.yr f),.int .i64 (Fl.ky f),.int .i64 (Prod.fst (Fl.bs f)),.int .i64 (Prod.snd (Fl.bs f))]]) (.n7 rfl) rfl fun fr=>?_
      refine kQ (kz rfl fld64_1 (kB sh3 rfl (zE rfl (zA (kQ (kz rfl yF (kB sh22 rfl (zC rfl (zAJ (u:=(z.key k).u) rfl ty22 rfl rfl (by omega) hku2 cl62 ?_)))))))))
      refine yG rfl rfl sh62 rfl ?_
      refine zR rfl rfl sh62 rfl rfl rfl rfl rfl ?_
      refine zA (kQ (kz rfl zEw (kz rfl yp (kB sh3 rfl (zC rfl ?_)))))
      refine zDr rfl rfl rfl (by unfold I64;omega) (o_max rfl rfl rfl ?_)
      refine kz rfl zEw (kz rfl wU (kB sh3 rfl ?_))
      refine zt [(2,U.box 0 0),(3,U.box 1 0),(5,U.box 2 0),(6,.int .i64 by'),(8,.int .i64 (Fl.ky f)),(9,U.box 4 0),(10,.int .i64 ↑j),(11,U.box 5 0),(109,.int .i64 (Max.max (-200:Int) (Prod.fst (Fl.bs f) - by'))),(112,.int .i64 (Prod.snd (Fl.bs f)))] [] ([SB.box [.int .i64 (Zt.yrs z),.lst .ro 7 (kysU (Zt.keys z)),.lst .ro 2 (spsU (Zt.steps z)),.lst .ro 4 (flsU (Zt.files z)),.lst .ro 4 (lksU (Zt.looks z))],SB.box [.int .i64 n1,.int .i64 n2,.int .i64 n3,.int .i64 n4],SB.box [.int .i64 (Zt.yrs z),U.sl 3 0 (List.length (Zt.keys z)) 7,.lst .ro 2 (spsU (Zt.steps z)),.lst .ro 4 (flsU (Zt.files z)),.lst .ro 4 (lksU (Zt.looks z))],SB.box (zT (kysU (Zt.keys z))),SB.box [.int .i64 (Prod.fst (Ky.bg (Zt.key z k))),.int .i64 (Prod.snd (Ky.bg (Zt.key z k))),.int .i64 (Prod.fst (Ky.rt (Zt.key z k))),.int .i64 (Prod.snd (Ky.rt (Zt.key z k))),U.bool (Ky.fx (Zt.key z k)),.int .i64 (Ky.dn (Zt.key z k)),.int .i64 (Ky.up (Zt.key z k))],SB.box [.int .i64 (Fl.yr f),.int .i64 (Fl.ky f),.int .i64 (Prod.fst (Fl.bs f)),.int .i64 (Prod.snd (Fl.bs f))]]) (.n10 rfl) rfl rfl fun fr=>?_
      refine zC rfl ?_
      refine kA rfl (by unfold I64;omega) (o_min rfl rfl rfl ?_)
      refine za rfl (q41) (.lrefl _) (kz rfl zEw (zR rfl rfl sh35 rfl rfl rfl rfl rfl ?_))
      refine zA ?_
      refine zO [(2,U.box 0 0),(3,U.box 1 0),(5,U.box 2 0),(8,.int .i64 (Fl.ky f)),(9,U.box 4 0),(10,.int .i64 ↑j),(11,U.box 5 0)] ([SB.box [.int .i64 (Zt.yrs z),.lst .ro 7 (kysU (Zt.keys z)),.lst .ro 2 (spsU (Zt.steps z)),.lst .ro 4 (flsU (Zt.files z)),.lst .ro 4 (lksU (Zt.looks z))],SB.box [.int .i64 n1,.int .i64 n2,.int .i64 n3,.int .i64 n4],SB.box [.int .i64 (Zt.yrs z),U.sl 3 0 (List.length (Zt.keys z)) 7,.lst .ro 2 (spsU (Zt.steps z)),.lst .ro 4 (flsU (Zt.files z)),.lst .ro 4 (lksU (Zt.looks z))],SB.box (zT (kysU (Zt.keys z))),SB.box [.int .i64 (Prod.fst (Ky.bg (Zt.key z k))),.int .i64 (Prod.snd (Ky.bg (Zt.key z k))),.int .i64 (Prod.fst (Ky.rt (Zt.key z k))),.int .i64 (Prod.snd (Ky.rt (Zt.key z k))),U.bool (Ky.fx (Zt.key z k)),.int .i64 (Ky.dn (Zt.key z k)),.int .i64 (Ky.up (Zt.key z k))],SB.box [.int .i64 (Fl.yr f),.int .i64 (Fl.ky f),.int .i64 (Max.max (-200:Int) (Prod.fst (Fl.bs f) - by')),.int .i64 (Min.min (200:Int) (Prod.snd (Fl.bs f)+by'))]]) (.n7 rfl) rfl fun fr=>?_
      refine kQ (zEL (es:=[]) rfl ty24 ze64 cl64 rfl rfl rfl rfl rfl rfl rfl rfl ?_)
      refine kz rfl wZ (kB sh24 rfl (zEM rfl ap24_24 rfl rfl (.inl rfl) (.inl rfl) (fls_one _) (fls_dg _) (List.length_map _) (by omega) (by omega) ?_))
      refine kz rfl wZ (zBE rfl rfl sh24 rfl rfl (zA ?_))
      refine zO [(2,U.box 0 0),(3,U.box 1 0),(5,U.box 2 0),(8,.int .i64 (Fl.ky f)),(9,U.box 4 0),(10,.int .i64 ↑j),(11,U.box 5 0)] ([SB.box [.int .i64 (Zt.yrs z),.lst .ro 7 (kysU (Zt.keys z)),.lst .ro 2 (spsU (Zt.steps z)),.lst .ro 4 (flsU (Zt.files z)),.lst .ro 4 (lksU (Zt.looks z))],SB.box [.int .i64 n1,.int .i64 n2,.int .i64 n3,.int .i64 n4],SB.box [.int .i64 (Zt.yrs z),U.sl 3 0 (List.length (Zt.keys z)) 7,.lst .ro 2 (spsU (Zt.steps z)),U.sl 6 0 (List.length (Zt.files z)) 4,.lst .ro 4 (lksU (Zt.looks z))],SB.box (zT (kysU (Zt.keys z))),SB.box [.int .i64 (Prod.fst (Ky.bg (Zt.key z k))),.int .i64 (Prod.snd (Ky.bg (Zt.key z k))),.int .i64 (Prod.fst (Ky.rt (Zt.key z k))),.int .i64 (Prod.snd (Ky.rt (Zt.key z k))),U.bool (Ky.fx (Zt.key z k)),.int .i64 (Ky.dn (Zt.key z k)),.int .i64 (Ky.up (Zt.key z k))],SB.box [.int .i64 (Fl.yr f),.int .i64 (Fl.ky f),.int .i64 (Max.max (-200:Int) (Prod.fst (Fl.bs f) - by')),.int .i64 (Min.min (200:Int) (Prod.snd (Fl.bs f)+by'))],SB.box (zT (flsU (Zt.files z)))]) (.n7 rfl) rfl fun fr=>?_
      refine k_region (kz rfl wZ (kB sh24 rfl (zC rfl (kC sh64 rfl (zHY rfl ty24 rfl rfl (Int.natCast_nonneg _) (by omega) cl64 ?_)))))
      refine zBx (m:=4) rfl rfl sh64 rfl rfl rfl (by rw[wK Fl.u 4 (fun _=>rfl)];omega) rfl (zAg Fl.u 4 (fun _=>rfl) z.files (by omega) {f with bs:=(max (-200) (f.bs.1 - by'),min 200 (f.bs.2+by'))}) ?_
      refine zA ?_
      have hks:=key_self z (show k<z.keys.length by omega)
      exact⟨rfl,k,z.key k,_,z.looks,_,_,_,by omega,(by
       have e:z.keys.set k (z.key k)=z.keys:=congrArg Zt.keys hks
       rw[e];exact hwid),.inr (.inl ⟨_,rfl,(by show U.sl 6 0 z.files.length 4=U.sl 6 0 (List.set ..).length 4;rw[List.length_set]),rfl⟩),rfl,.cons rfl (.cons rfl (.cons rfl (.cons (congrArg (U.int .i64) hkf) (.n1 rfl))))⟩
     ·by_cases k3:0<z.looks.length
      ·have kn3:decide ((0:Int)<z.looks.length)=true:=kG (by omega)
       have hf6:=h.l
       have q40d:=ret40 (orc:=orc) hi n2 z.looks.length (by omega)
       have hf0:=Int.emod_nonneg n2 (show(z.looks.length:Int)≠0 by omega)
       have hf1:=Int.emod_lt_of_pos n2 (show 0<(z.looks.length:Int) by omega)
       obtain⟨j,hj⟩:∃j:Nat,n2 % (z.looks.length:Int)=j:=⟨(n2 % (z.looks.length:Int)).toNat,by omega⟩
       rw[hj]at q40d
       obtain⟨f,hf⟩:∃f,z.looks[j]? =some f:=⟨z.looks[j]'(by omega),List.getElem?_eq_getElem (by omega)⟩
       have hff:=h.ll f (List.mem_of_getElem? hf)
       have hfu:(lksU z.looks)[j]? =some f.u:=by rw[List.getElem?_map,hf];rfl
       obtain⟨k,hkf⟩:∃k:Nat,f.ky=k:=⟨f.ky.toNat,by omega⟩
       have hku:(kysU z.keys)[f.ky.toNat]? =some (z.key k).u:=by
        rw[hkf,Int.toNat_natCast,List.getElem?_map]
        unfold Zt.key
        rw[List.getElem?_eq_getElem (show k<z.keys.length by omega)];rfl
       have hwid:=wid_look h hf hby0
       have hks:=key_self z (show k<z.keys.length by omega)
       have hW:Wid z ⟨z.yrs,z.keys.set k (z.key k),z.steps,z.files,z.looks.set j {f with er:=min 500 (f.er+by')}⟩:=by
        have e:z.keys.set k (z.key k)=z.keys:=congrArg Zt.keys hks
        rw[e];exact hwid
       have hlen:(z.looks.set j {f with er:=min 500 (f.er+by')}).length=z.looks.length:=List.length_set ..
       by_cases k2b:kd=2
       ·have kn2:=kG k2b
        have kn4:decide ((0:Int)<z.files.length)=false:=kH (by have:=fun h=>k2 ⟨k2b,h⟩;omega)
        refine kQ (zC rfl (ku rfl (zA (k_cF rfl (by assumption) (kQ (zC rfl (ku rfl (zA (k_cF rfl (by assumption) (kQ (zC rfl (ku rfl (zC rfl (kh rfl (by assumption) (kz rfl wZ ?_)))))))))))))))
        refine kh rfl (by assumption) (kB sh24 rfl (kh rfl (by assumption) (yO rfl ty24 rfl (List.length_map _) ?_)))
        refine kh rfl (by assumption) (o_gtr rfl rfl rfl (wF rfl rfl (by assumption) ?_))
        refine zA ?_
        refine zO [(2,U.box 0 0),(3,U.box 1 0),(5,U.box 2 0),(6,.int .i64 by'),(8,.int .i64 ↑i),(9,U.box 4 0),(85,U.bool (decide ((0:Int)< ↑(List.length (Zt.files z)))))] ([SB.box [.int .i64 (Zt.yrs z),.lst .ro 7 (kysU (Zt.keys z)),.lst .ro 2 (spsU (Zt.steps z)),.lst .ro 4 (flsU (Zt.files z)),.lst .ro 4 (lksU (Zt.looks z))],SB.box [.int .i64 n1,.int .i64 n2,.int .i64 n3,.int .i64 n4],SB.box [.int .i64 (Zt.yrs z),U.sl 3 0 (List.length (Zt.keys z)) 7,.lst .ro 2 (spsU (Zt.steps z)),.lst .ro 4 (flsU (Zt.files z)),.lst .ro 4 (lksU (Zt.looks z))],SB.box (zT (kysU (Zt.keys z))),SB.box [.int .i64 (Prod.fst (Ky.bg (Zt.key z i))),.int .i64 (Prod.snd (Ky.bg (Zt.key z i))),.int .i64 (Prod.fst (Ky.rt (Zt.key z i))),.int .i64 (Prod.snd (Ky.rt (Zt.key z i))),U.bool (Ky.fx (Zt.key z i)),.int .i64 (Ky.dn (Zt.key z i)),.int .i64 (Ky.up (Zt.key z i))]]) (.n7 rfl) rfl fun fr=>?_
        refine k_cF rfl (by assumption) (kQ (kz rfl yu (kB sh25 rfl (yO rfl ty25 rfl (List.length_map _) ?_))))
        refine o_gtr rfl rfl rfl (zA (k_cT rfl (by assumption) (kQ (zAT rfl ty70 rfl rfl (by omega) (by omega) cl3 ?_))))
        refine kB sh3 rfl (kz rfl yu (kB sh25 rfl (yO rfl ty25 rfl (List.length_map _) ?_)))
        refine za rfl (q40d) (.lrefl _) (zE rfl (zA (kQ (kz rfl yu (kB sh25 rfl (zC rfl (zAJ (u:=f.u) rfl ty25 rfl rfl (Int.natCast_nonneg _) hfu cl68 ?_)))))))
        refine yG rfl rfl sh68 rfl ?_
        refine zl rfl ze68 ?_
        refine zR rfl rfl sh68 rfl rfl rfl rfl rfl ?_
        refine zA ?_
        refine zO [(2,U.box 0 0),(3,U.box 1 0),(5,U.box 2 0),(6,.int .i64 by'),(9,U.box 4 0),(12,.int .i64 ↑j),(13,U.box 5 0)] ([SB.box [.int .i64 (Zt.yrs z),.lst .ro 7 (kysU (Zt.keys z)),.lst .ro 2 (spsU (Zt.steps z)),.lst .ro 4 (flsU (Zt.files z)),.lst .ro 4 (lksU (Zt.looks z))],SB.box [.int .i64 n1,.int .i64 n2,.int .i64 n3,.int .i64 n4],SB.box [.int .i64 (Zt.yrs z),U.sl 3 0 (List.length (Zt.keys z)) 7,.lst .ro 2 (spsU (Zt.steps z)),.lst .ro 4 (flsU (Zt.files z)),.lst .ro 4 (lksU (Zt.looks z))],SB.box (zT (kysU (Zt.keys z))),SB.box [.int .i64 (Prod.fst (Ky.bg (Zt.key z i))),.int .i64 (Prod.snd (Ky.bg (Zt.key z i))),.int .i64 (Prod.fst (Ky.rt (Zt.key z i))),.int .i64 (Prod.snd (Ky.rt (Zt.key z i))),U.bool (Ky.fx (Zt.key z i)),.int .i64 (Ky.dn (Zt.key z i)),.int .i64 (Ky.up (Zt.key z i))],SB.box [.int .i64 (Lk.yr f),.int .i64 (Lk.ky f),.int .i64 (Lk.rd f),.int .i64 (Lk.er f)]]) (.n7 rfl) rfl fun fr=>?_
        refine kQ (kz rfl zEv (kB sh3 rfl (zE rfl (zA (kQ (kz rfl yF (kB sh22 rfl (zC rfl (zAJ (u:=(z.key k).u) rfl ty22 rfl rfl (by omega) hku cl62 ?_)))))))))
        refine yG rfl rfl sh62 rfl ?_
        refine zR rfl rfl sh62 rfl rfl rfl rfl rfl ?_
        refine zA (kQ (kz rfl zDA (kB sh3 rfl (zC rfl ?_))))
        refine kA rfl (by unfold I64;omega) (o_min rfl rfl rfl ?_)
        refine kz rfl zDA (zBE rfl rfl sh3 rfl rfl (zA ?_))
        refine zO [(2,U.box 0 0),(3,U.box 1 0),(5,U.box 2 0),(8,.int .i64 (Lk.ky f)),(9,U.box 4 0),(12,.int .i64 ↑j),(13,U.box 5 0)] ([SB.box [.int .i64 (Zt.yrs z),.lst .ro 7 (kysU (Zt.keys z)),.lst .ro 2 (spsU (Zt.steps z)),.lst .ro 4 (flsU (Zt.files z)),.lst .ro 4 (lksU (Zt.looks z))],SB.box [.int .i64 n1,.int .i64 n2,.int .i64 n3,.int .i64 n4],SB.box [.int .i64 (Zt.yrs z),U.sl 3 0 (List.length (Zt.keys z)) 7,.lst .ro 2 (spsU (Zt.steps z)),.lst .ro 4 (flsU (Zt.files z)),.lst .ro 4 (lksU (Zt.looks z))],SB.box (zT (kysU (Zt.keys z))),SB.box [.int .i64 (Prod.fst (Ky.bg (Zt.key z k))),.int .i64 (Prod.snd (Ky.bg (Zt.key z k))),.int .i64 (Prod.fst (Ky.rt (Zt.key z k))),.int .i64 (Prod.snd (Ky.rt (Zt.key z k))),U.bool (Ky.fx (Zt.key z k)),.int .i64 (Ky.dn (Zt.key z k)),.int .i64 (Ky.up (Zt.key z k))],SB.box [.int .i64 (Lk.yr f),.int .i64 (Lk.ky f),.int .i64 (Lk.rd f),.int .i64 (Min.min (500:Int) (Lk.er f+by'))]]) (.n7 rfl) rfl fun fr=>?_
        refine kQ (zEL (es:=[]) rfl ty25 ze68 cl68 rfl rfl rfl rfl rfl rfl rfl rfl ?_)
        refine kz rfl yu (kB sh25 rfl (zEM rfl ap25_25 rfl rfl (.inl rfl) (.inl rfl) (lks_one _) (lks_dg _) (List.length_map _) (by omega) (by omega) ?_))
        refine kz rfl yu (zBE rfl rfl sh25 rfl rfl (zA ?_))
        refine zO [(2,U.box 0 0),(3,U.box 1 0),(5,U.box 2 0),(8,.int .i64 (Lk.ky f)),(9,U.box 4 0),(12,.int .i64 ↑j),(13,U.box 5 0)] ([SB.box [.int .i64 (Zt.yrs z),.lst .ro 7 (kysU (Zt.keys z)),.lst .ro 2 (spsU (Zt.steps z)),.lst .ro 4 (flsU (Zt.files z)),.lst .ro 4 (lksU (Zt.looks z))],SB.box [.int .i64 n1,.int .i64 n2,.int .i64 n3,.int .i64 n4],SB.box [.int .i64 (Zt.yrs z),U.sl 3 0 (List.length (Zt.keys z)) 7,.lst .ro 2 (spsU (Zt.steps z)),.lst .ro 4 (flsU (Zt.files z)),U.sl 6 0 (List.length (Zt.looks z)) 4],SB.box (zT (kysU (Zt.keys z))),SB.box [.int .i64 (Prod.fst (Ky.bg (Zt.key z k))),.int .i64 (Prod.snd (Ky.bg (Zt.key z k))),.int .i64 (Prod.fst (Ky.rt (Zt.key z k))),.int .i64 (Prod.snd (Ky.rt (Zt.key z k))),U.bool (Ky.fx (Zt.key z k)),.int .i64 (Ky.dn (Zt.key z k)),.int .i64 (Ky.up (Zt.key z k))],SB.box [.int .i64 (Lk.yr f),.int .i64 (Lk.ky f),.int .i64 (Lk.rd f),.int .i64 (Min.min (500:Int) (Lk.er f+by'))],SB.box (zT (lksU (Zt.looks z)))]) (.n7 rfl) rfl fun fr=>?_
        refine k_region (kz rfl yu (kB sh25 rfl (zC rfl (kC sh68 rfl (zHY rfl ty25 rfl rfl (Int.natCast_nonneg _) (by omega) cl68 ?_)))))
        refine zBx (m:=4) rfl rfl sh68 rfl rfl rfl (by rw[wK Lk.u 4 (fun _=>rfl)];omega) rfl (zAg Lk.u 4 (fun _=>rfl) z.looks (by omega) {f with er:=min 500 (f.er+by')}) ?_
        refine zA ?_
        exact⟨rfl,k,z.key k,z.files,_,_,_,_,by omega,hW,.inr (.inr ⟨_,rfl,rfl,(by rw[hlen])⟩),rfl,.cons rfl (.cons rfl (.cons rfl (.cons (congrArg (U.int .i64) hkf) (.n1 rfl))))⟩
       ·have kn2:=kH k2b
        refine kQ (zC rfl (ku rfl (zA (k_cF rfl (by assumption) (kQ (zC rfl (ku rfl (zA (k_cF rfl (by assumption) (kQ (zC rfl (ku rfl (zC rfl (kg rfl (by assumption) (kg rfl (by assumption) ?_)))))))))))))))
        refine kg rfl (by assumption) (kg rfl (by assumption) (zAw rfl rfl (by assumption) ?_))
        refine zA ?_
        refine zO [(2,U.box 0 0),(3,U.box 1 0),(5,U.box 2 0),(6,.int .i64 by'),(8,.int .i64 ↑i),(9,U.box 4 0),(85,.bool false)] ([SB.box [.int .i64 (Zt.yrs z),.lst .ro 7 (kysU (Zt.keys z)),.lst .ro 2 (spsU (Zt.steps z)),.lst .ro 4 (flsU (Zt.files z)),.lst .ro 4 (lksU (Zt.looks z))],SB.box [.int .i64 n1,.int .i64 n2,.int .i64 n3,.int .i64 n4],SB.box [.int .i64 (Zt.yrs z),U.sl 3 0 (List.length (Zt.keys z)) 7,.lst .ro 2 (spsU (Zt.steps z)),.lst .ro 4 (flsU (Zt.files z)),.lst .ro 4 (lksU (Zt.looks z))],SB.box (zT (kysU (Zt.keys z))),SB.box [.int .i64 (Prod.fst (Ky.bg (Zt.key z i))),.int .i64 (Prod.snd (Ky.bg (Zt.key z i))),.int .i64 (Prod.fst (Ky.rt (Zt.key z i))),.int .i64 (Prod.snd (Ky.rt (Zt.key z i))),U.bool (Ky.fx (Zt.key z i)),.int .i64 (Ky.dn (Zt.key z i)),.int .i64 (Ky.up (Zt.key z i))]]) (.n7 rfl) rfl fun fr=>?_
        refine k_cF rfl rfl ?_
        refine kQ (kz rfl yu (kB sh25 rfl (yO rfl ty25 rfl (List.length_map _) ?_)))
        refine o_gtr rfl rfl rfl (zA (k_cT rfl (by assumption) (kQ (zAT rfl ty70 rfl rfl (by omega) (by omega) cl3 ?_))))
        refine kB sh3 rfl (kz rfl yu (kB sh25 rfl (yO rfl ty25 rfl (List.length_map _) ?_)))
        refine za rfl (q40d) (.lrefl _) (zE rfl (zA (kQ (kz rfl yu (kB sh25 rfl (zC rfl (zAJ (u:=f.u) rfl ty25 rfl rfl (Int.natCast_nonneg _) hfu cl68 ?_)))))))
        refine yG rfl rfl sh68 rfl ?_
        refine zl rfl ze68 ?_
        refine zR rfl rfl sh68 rfl rfl rfl rfl rfl ?_
        refine zA ?_
        refine zO [(2,U.box 0 0),(3,U.box 1 0),(5,U.box 2 0),(6,.int .i64 by'),(9,U.box 4 0),(12,.int .i64 ↑j),(13,U.box 5 0)] ([SB.box [.int .i64 (Zt.yrs z),.lst .ro 7 (kysU (Zt.keys z)),.lst .ro 2 (spsU (Zt.steps z)),.lst .ro 4 (flsU (Zt.files z)),.lst .ro 4 (lksU (Zt.looks z))],SB.box [.int .i64 n1,.int .i64 n2,.int .i64 n3,.int .i64 n4],SB.box [.int .i64 (Zt.yrs z),U.sl 3 0 (List.length (Zt.keys z)) 7,.lst .ro 2 (spsU (Zt.steps z)),.lst .ro 4 (flsU (Zt.files z)),.lst .ro 4 (lksU (Zt.looks z))],SB.box (zT (kysU (Zt.keys z))),SB.box [.int .i64 (Prod.fst (Ky.bg (Zt.key z i))),.int .i64 (Prod.snd (Ky.bg (Zt.key z i))),.int .i64 (Prod.fst (Ky.rt (Zt.key z i))),.int .i64 (Prod.snd (Ky.rt (Zt.key z i))),U.bool (Ky.fx (Zt.key z i)),.int .i64 (Ky.dn (Zt.key z i)),.int .i64 (Ky.up (Zt.key z i))],SB.box [.int .i64 (Lk.yr f),.int .i64 (Lk.ky f),.int .i64 (Lk.rd f),.int .i64 (Lk.er f)]]) (.n7 rfl) rfl fun fr=>?_
        refine kQ (kz rfl zEv (kB sh3 rfl (zE rfl (zA (kQ (kz rfl yF (kB sh22 rfl (zC rfl (zAJ (u:=(z.key k).u) rfl ty22 rfl rfl (by omega) hku cl62 ?_)))))))))
        refine yG rfl rfl sh62 rfl ?_
        refine zR rfl rfl sh62 rfl rfl rfl rfl rfl ?_
        refine zA (kQ (kz rfl zDA (kB sh3 rfl (zC rfl ?_))))
        refine kA rfl (by unfold I64;omega) (o_min rfl rfl rfl ?_)
        refine kz rfl zDA (zBE rfl rfl sh3 rfl rfl (zA ?_))
        refine zO [(2,U.box 0 0),(3,U.box 1 0),(5,U.box 2 0),(8,.int .i64 (Lk.ky f)),(9,U.box 4 0),(12,.int .i64 ↑j),(13,U.box 5 0)] ([SB.box [.int .i64 (Zt.yrs z),.lst .ro 7 (kysU (Zt.keys z)),.lst .ro 2 (spsU (Zt.steps z)),.lst .ro 4 (flsU (Zt.files z)),.lst .ro 4 (lksU (Zt.looks z))],SB.box [.int .i64 n1,.int .i64 n2,.int .i64 n3,.int .i64 n4],SB.box [.int .i64 (Zt.yrs z),U.sl 3 0 (List.length (Zt.keys z)) 7,.lst .ro 2 (spsU (Zt.steps z)),.lst .ro 4 (flsU (Zt.files z)),.lst .ro 4 (lksU (Zt.looks z))],SB.box (zT (kysU (Zt.keys z))),SB.box [.int .i64 (Prod.fst (Ky.bg (Zt.key z k))),.int .i64 (Prod.snd (Ky.bg (Zt.key z k))),.int .i64 (Prod.fst (Ky.rt (Zt.key z k))),.int .i64 (Prod.snd (Ky.rt (Zt.key z k))),U.bool (Ky.fx (Zt.key z k)),.int .i64 (Ky.dn (Zt.key z k)),.int .i64 (Ky.up (Zt.key z k))],SB.box [.int .i64 (Lk.yr f),.int .i64 (Lk.ky f),.int .i64 (Lk.rd f),.int .i64 (Min.min (500:Int) (Lk.er f+by'))]]) (.n7 rfl) rfl fun fr=>?_
        refine kQ (zEL (es:=[]) rfl ty25 ze68 cl68 rfl rfl rfl rfl rfl rfl rfl rfl ?_)
        refine kz rfl yu (kB sh25 rfl (zEM rfl ap25_25 rfl rfl (.inl rfl) (.inl rfl) (lks_one _) (lks_dg _) (List.length_map _) (by omega) (by omega) ?_))
        refine kz rfl yu (zBE rfl rfl sh25 rfl rfl (zA ?_))
        refine zO [(2,U.box 0 0),(3,U.box 1 0),(5,U.box 2 0),(8,.int .i64 (Lk.ky f)),(9,U.box 4 0),(12,.int .i64 ↑j),(13,U.box 5 0)] ([SB.box [.int .i64 (Zt.yrs z),.lst .ro 7 (kysU (Zt.keys z)),.lst .ro 2 (spsU (Zt.steps z)),.lst .ro 4 (flsU (Zt.files z)),.lst .ro 4 (lksU (Zt.looks z))],SB.box [.int .i64 n1,.int .i64 n2,.int .i64 n3,.int .i64 n4],SB.box [.int .i64 (Zt.yrs z),U.sl 3 0 (List.length (Zt.keys z)) 7,.lst .ro 2 (spsU (Zt.steps z)),.lst .ro 4 (flsU (Zt.files z)),U.sl 6 0 (List.length (Zt.looks z)) 4],SB.box (zT (kysU (Zt.keys z))),SB.box [.int .i64 (Prod.fst (Ky.bg (Zt.key z k))),.int .i64 (Prod.snd (Ky.bg (Zt.key z k))),.int .i64 (Prod.fst (Ky.rt (Zt.key z k))),.int .i64 (Prod.snd (Ky.rt (Zt.key z k))),U.bool (Ky.fx (Zt.key z k)),.int .i64 (Ky.dn (Zt.key z k)),.int .i64 (Ky.up (Zt.key z k))],SB.box [.int .i64 (Lk.yr f),.int .i64 (Lk.ky f),.int .i64 (Lk.rd f),.int .i64 (Min.min (500:Int) (Lk.er f+by'))],SB.box (zT (lksU (Zt.looks z)))]) (.n7 rfl) rfl fun fr=>?_
        refine k_region (kz rfl yu (kB sh25 rfl (zC rfl (kC sh68 rfl (zHY rfl ty25 rfl rfl (Int.natCast_nonneg _) (by omega) cl68 ?_)))))
        refine zBx (m:=4) rfl rfl sh68 rfl rfl rfl (by rw[wK Lk.u 4 (fun _=>rfl)];omega) rfl (zAg Lk.u 4 (fun _=>rfl) z.looks (by omega) {f with er:=min 500 (f.er+by')}) ?_
        refine zA ?_
        exact⟨rfl,k,z.key k,z.files,_,_,_,_,by omega,hW,.inr (.inr ⟨_,rfl,rfl,(by rw[hlen])⟩),rfl,.cons rfl (.cons rfl (.cons rfl (.cons (congrArg (U.int .i64) hkf) (.n1 rfl))))⟩
      ·have kn3:decide ((0:Int)<z.looks.length)=false:=kH (by omega)
       have hks:=key_self z hil
       have hW:Wid z ⟨z.yrs,z.keys.set i (z.key i),z.steps,z.files,z.looks⟩:=by
        have e:z.keys.set i (z.key i)=z.keys:=congrArg Zt.keys hks
        rw[e];exact wid_self h
       by_cases k2b:kd=2
       ·have kn2:=kG k2b
        have kn4:decide ((0:Int)<z.files.length)=false:=kH (by have:=fun h=>k2 ⟨k2b,h⟩;omega)
        refine kQ (zC rfl (ku rfl (zA (k_cF rfl (by assumption) (kQ (zC rfl (ku rfl (zA (k_cF rfl (by assumption) (kQ (zC rfl (ku rfl (zC rfl (kh rfl (by assumption) (kz rfl wZ ?_)))))))))))))))
        refine kh rfl (by assumption) (kB sh24 rfl (kh rfl (by assumption) (yO rfl ty24 rfl (List.length_map _) ?_)))
        refine kh rfl (by assumption) (o_gtr rfl rfl rfl (wF rfl rfl (by assumption) ?_))
        refine zA ?_
        refine zO [(2,U.box 0 0),(3,U.box 1 0),(5,U.box 2 0),(6,.int .i64 by'),(8,.int .i64 ↑i),(9,U.box 4 0),(85,U.bool (decide ((0:Int)< ↑(List.length (Zt.files z)))))] ([SB.box [.int .i64 (Zt.yrs z),.lst .ro 7 (kysU (Zt.keys z)),.lst .ro 2 (spsU (Zt.steps z)),.lst .ro 4 (flsU (Zt.files z)),.lst .ro 4 (lksU (Zt.looks z))],SB.box [.int .i64 n1,.int .i64 n2,.int .i64 n3,.int .i64 n4],SB.box [.int .i64 (Zt.yrs z),U.sl 3 0 (List.length (Zt.keys z)) 7,.lst .ro 2 (spsU (Zt.steps z)),.lst .ro 4 (flsU (Zt.files z)),.lst .ro 4 (lksU (Zt.looks z))],SB.box (zT (kysU (Zt.keys z))),SB.box [.int .i64 (Prod.fst (Ky.bg (Zt.key z i))),.int .i64 (Prod.snd (Ky.bg (Zt.key z i))),.int .i64 (Prod.fst (Ky.rt (Zt.key z i))),.int .i64 (Prod.snd (Ky.rt (Zt.key z i))),U.bool (Ky.fx (Zt.key z i)),.int .i64 (Ky.dn (Zt.key z i)),.int .i64 (Ky.up (Zt.key z i))]]) (.n7 rfl) rfl fun fr=>?_
        refine k_cF rfl (by assumption) (kQ (kz rfl yu (kB sh25 rfl (yO rfl ty25 rfl (List.length_map _) ?_))))
        refine o_gtr rfl rfl rfl (zA (k_cF rfl (by assumption) (zz ?_)))
        exact⟨rfl,i,_,z.files,z.looks,_,_,[],hil,hW,.inl ⟨rfl,rfl,rfl⟩,rfl,.c4 rfl rfl rfl rfl (.n1 rfl)⟩
       ·have kn2:=kH k2b
        refine kQ (zC rfl (ku rfl (zA (k_cF rfl (by assumption) (kQ (zC rfl (ku rfl (zA (k_cF rfl (by assumption) (kQ (zC rfl (ku rfl (zC rfl (kg rfl (by assumption) (kg rfl (by assumption) ?_)))))))))))))))
        refine kg rfl (by assumption) (kg rfl (by assumption) (zAw rfl rfl (by assumption) ?_))
        refine zA ?_
        refine zO [(2,U.box 0 0),(3,U.box 1 0),(5,U.box 2 0),(6,.int .i64 by'),(8,.int .i64 ↑i),(9,U.box 4 0),(85,.bool false)] ([SB.box [.int .i64 (Zt.yrs z),.lst .ro 7 (kysU (Zt.keys z)),.lst .ro 2 (spsU (Zt.steps z)),.lst .ro 4 (flsU (Zt.files z)),.lst .ro 4 (lksU (Zt.looks z))],SB.box [.int .i64 n1,.int .i64 n2,.int .i64 n3,.int .i64 n4],SB.box [.int .i64 (Zt.yrs z),U.sl 3 0 (List.length (Zt.keys z)) 7,.lst .ro 2 (spsU (Zt.steps z)),.lst .ro 4 (flsU (Zt.files z)),.lst .ro 4 (lksU (Zt.looks z))],SB.box (zT (kysU (Zt.keys z))),SB.box [.int .i64 (Prod.fst (Ky.bg (Zt.key z i))),.int .i64 (Prod.snd (Ky.bg (Zt.key z i))),.int .i64 (Prod.fst (Ky.rt (Zt.key z i))),.int .i64 (Prod.snd (Ky.rt (Zt.key z i))),U.bool (Ky.fx (Zt.key z i)),.int .i64 (Ky.dn (Zt.key z i)),.int .i64 (Ky.up (Zt.key z i))]]) (.n7 rfl) rfl fun fr=>?_
        refine k_cF rfl rfl ?_
        refine kQ (kz rfl yu (kB sh25 rfl (yO rfl ty25 rfl (List.length_map _) ?_)))
        refine o_gtr rfl rfl rfl (zA (k_cF rfl (by assumption) (zz ?_)))
        exact⟨rfl,i,_,z.files,z.looks,_,_,[],hil,hW,.inl ⟨rfl,rfl,rfl⟩,rfl,.c4 rfl rfl rfl rfl (.n1 rfl)⟩
  refine k_cut (fun s1=>∃(key:Nat) (w:Zt) (cf cl:U) (b4:SB) (e:List SB),key<z.keys.length∧Wid z w∧w.yrs=z.yrs∧w.steps=z.steps∧(∀b0 b1 b2 b3 b4:SB,US ([b0,b1,b2,b3,b4]++e) (.u cf) (.u (.lst .ro 4 (flsU w.files)))∧US ([b0,b1,b2,b3,b4]++e) (.u cl) (.u (.lst .ro 4 (lksU w.looks))))∧s1.st=[SB.box z.cs,.box [.int .i64 n1,.int .i64 n2,.int .i64 n3,.int .i64 n4],.box (cel5 z.yrs (.sl 3 0 z.keys.length 7) (.lst .ro 2 (spsU z.steps)) cf cl),.box (zT (kysU w.keys)),b4]++e∧Holds s1 [(2,.box 0 0),(3,.box 1 0),(5,.box 2 0),(8,.int .i64 key)]) ?_ fun s5 hM2=>?_
  ·obtain⟨key,ky,fs,ls,cf,cl,e,hkl,hW,hor,hst,hs⟩:=hM
   rcases hor with ⟨rfl,rfl,rfl⟩|⟨b,rfl,rfl,rfl⟩|⟨b,rfl,rfl,rfl⟩
   ·refine zO _ _ hs hst fun fr=>?_
    refine k_region (kz rfl yF (kB sh22 rfl (zC rfl (kC sh62 rfl (zHY rfl ty22 rfl rfl (Int.natCast_nonneg _) (by omega) cl62 ?_)))))
    refine zBx (m:=7) rfl rfl sh62 rfl rfl rfl (by rw[wK Ky.u 7 (fun _=>rfl)];omega) rfl (zAg Ky.u 7 (fun _=>rfl) z.keys hkl ky) ?_
    refine zA ?_
    exact⟨rfl,key,⟨z.yrs,z.keys.set key ky,z.steps,fs,ls⟩,_,_,_,[],hkl,hW,rfl,rfl,(fun b0 b1 b2 b3 b4=>⟨.refl _,.refl _⟩),rfl,.c4 rfl rfl rfl rfl (.nil rfl)⟩
   ·refine k_frz (a:=6) (by rw[hst];rfl) ?_
    refine zO [(2,.box 0 0),(3,.box 1 0),(5,.box 2 0),(8,.int .i64 key),(9,.box 4 0)] ([SB.box z.cs,.box [.int .i64 n1,.int .i64 n2,.int .i64 n3,.int .i64 n4],.box (cel5 z.yrs (.sl 3 0 z.keys.length 7) (.lst .ro 2 (spsU z.steps)) (.sl 6 0 fs.length 4) (.lst .ro 4 (lksU ls))),.box (zT (kysU z.keys)),.box ky.cs]++[SB.box b,.froz (zT (flsU fs))]) (by
     have:=hs.2
     exact⟨by show zCf _ s4.al=_;rw[hs.1];rfl,this⟩) (by show List.set s4.st _ _=_;rw[hst,fls_dg];rfl) fun fr=>?_
    refine k_region (kz rfl yF (kB sh22 rfl (zC rfl (kC sh62 rfl (zHY rfl ty22 rfl rfl (Int.natCast_nonneg _) (by omega) cl62 ?_)))))
    refine zBx (m:=7) rfl rfl sh62 rfl rfl rfl (by rw[wK Ky.u 7 (fun _=>rfl)];omega) rfl (zAg Ky.u 7 (fun _=>rfl) z.keys hkl ky) ?_
    refine zA ?_
    exact⟨rfl,key,⟨z.yrs,z.keys.set key ky,z.steps,fs,ls⟩,_,_,_,_,hkl,hW,rfl,rfl,(fun b0 b1 b2 b3 b4=>⟨us_list Fl.u 4 (fun _=>rfl) rfl rfl,.refl _⟩),rfl,.c4 rfl rfl rfl rfl (.nil rfl)⟩
   ·refine k_frz (a:=6) (by rw[hst];rfl) ?_
    refine zO [(2,.box 0 0),(3,.box 1 0),(5,.box 2 0),(8,.int .i64 key),(9,.box 4 0)] ([SB.box z.cs,.box [.int .i64 n1,.int .i64 n2,.int .i64 n3,.int .i64 n4],.box (cel5 z.yrs (.sl 3 0 z.keys.length 7) (.lst .ro 2 (spsU z.steps)) (.lst .ro 4 (flsU fs)) (.sl 6 0 ls.length 4)),.box (zT (kysU z.keys)),.box ky.cs]++[SB.box b,.froz (zT (lksU ls))]) (by
     have:=hs.2
     exact⟨by show zCf _ s4.al=_;rw[hs.1];rfl,this⟩) (by show List.set s4.st _ _=_;rw[hst,lks_dg];rfl) fun fr=>?_
    refine k_region (kz rfl yF (kB sh22 rfl (zC rfl (kC sh62 rfl (zHY rfl ty22 rfl rfl (Int.natCast_nonneg _) (by omega) cl62 ?_)))))
    refine zBx (m:=7) rfl rfl sh62 rfl rfl rfl (by rw[wK Ky.u 7 (fun _=>rfl)];omega) rfl (zAg Ky.u 7 (fun _=>rfl) z.keys hkl ky) ?_
    refine zA ?_
    exact⟨rfl,key,⟨z.yrs,z.keys.set key ky,z.steps,fs,ls⟩,_,_,_,_,hkl,hW,rfl,rfl,(fun b0 b1 b2 b3 b4=>⟨.refl _,us_list Lk.u 4 (fun _=>rfl) rfl rfl⟩),rfl,.c4 rfl rfl rfl rfl (.nil rfl)⟩
  ·obtain⟨key,w,cf,cl,b4,e,hkl,hW,hwy,hws,hus,hst,hs⟩:=hM2
   obtain⟨y,hy9⟩:∃y,y=n4 % (z.yrs+1):=⟨_,rfl⟩
   have q40e:=ret40 (orc:=orc) hi n4 (z.yrs+1) (by omega)
   rw[←hy9]at q40e
   have hyy:0≤y∧y≤z.yrs:=by
    have h1:=Int.emod_nonneg n4 (show z.yrs+1≠0 by omega)
    have h2:=Int.emod_lt_of_pos n4 (show 0<z.yrs+1 by omega)
    omega
   have hlaw:=wid_law h hW (k:=key) (y:=y) (by omega) hyy
   have qa:=ret19 (orc:=orc) hi z key y
   have qb:=ret19 (orc:=orc) hi w key y
   have hwn:=hW.n
   have hU:US ([SB.box z.cs,.box [.int .i64 n1,.int .i64 n2,.int .i64 n3,.int .i64 n4],.box (cel5 z.yrs (.sl 3 0 z.keys.length 7) (.lst .ro 2 (spsU z.steps)) cf cl),.froz (zT (kysU w.keys)),b4]++e) (.u (.agg (cel5 z.yrs (.sl 3 0 z.keys.length 7) (.lst .ro 2 (spsU z.steps)) cf cl))) (.u w.u):=by
    rw[←hwy,←hws]
    exact .agg _ _ (.lcons _ _ _ _ (.refl _) (.lcons _ _ _ _ (us_list Ky.u 7 (fun _=>rfl) rfl hwn.symm) (.lcons _ _ _ _ (.refl _) (.lcons _ _ _ _ (hus _ _ _ _ _).1 (.lcons _ _ _ _ (hus _ _ _ _ _).2 (.lrefl _))))))
   generalize wasE w key y=f at*
   generalize wasR w key y=b at*
   generalize wasE z key y=g at*
   generalize wasR z key y=a at*
   obtain⟨a1,a2⟩:=a
   obtain⟨b1,b2⟩:=b
   refine k_frz (a:=3) (by rw[hst];rfl) ?_
   refine zO [(2,.box 0 0),(3,.box 1 0),(5,.box 2 0),(8,.int .i64 key)] ([SB.box z.cs,.box [.int .i64 n1,.int .i64 n2,.int .i64 n3,.int .i64 n4],.box (cel5 z.yrs (.sl 3 0 z.keys.length 7) (.lst .ro 2 (spsU z.steps)) cf cl),.froz (zT (kysU w.keys)),b4]++e) (by
    have:=hs.2
    exact⟨by show zCf _ s5.al=_;rw[hs.1];rfl,this⟩) (by show List.set s5.st _ _=_;rw[hst,kys_dg];rfl) fun fr=>?_
   refine kQ (zAT rfl ty70 rfl rfl (by omega) (by omega) cl3 ?_)
   refine kB sh3 rfl (kz rfl wl (kB sh3 rfl ?_))
   refine kA rfl (by unfold I64;omega) (za rfl (q40e) (.lrefl _) (zE rfl (zA (kQ (kC sh27 rfl (zC rfl (zC rfl (za rfl (qa) (.lrefl _) (zC rfl (kw rfl (kw rfl (zl rfl ze35 ?_))))))))))))
   refine zR rfl (ze _ _) sh35 rfl rfl rfl rfl rfl ?_
   refine zE rfl (zA ?_)
   refine zO [(5,.box 2 0),(8,.int .i64 key),(14,.int .i64 y),(15,.box (e.length+5) 0),(16,.int .i64 g)] (([SB.box z.cs,.box [.int .i64 n1,.int .i64 n2,.int .i64 n3,.int .i64 n4],.box (cel5 z.yrs (.sl 3 0 z.keys.length 7) (.lst .ro 2 (spsU z.steps)) cf cl),.froz (zT (kysU w.keys)),b4]++e)++[SB.box [.int .i64 a1,.int .i64 a2]]) (.n5 rfl) (by exact ym _ _ _) fun fr=>?_
   have hat:(([SB.box z.cs,.box [.int .i64 n1,.int .i64 n2,.int .i64 n3,.int .i64 n4],.box (cel5 z.yrs (.sl 3 0 z.keys.length 7) (.lst .ro 2 (spsU z.steps)) cf cl),.froz (zT (kysU w.keys)),b4]++e)++[SB.box [.int .i64 a1,.int .i64 a2]])[e.length+5]? =some (.box [.int .i64 a1,.int .i64 a2]):=ze _ _
   have hUa:=US.app hU [SB.box [.int .i64 a1,.int .i64 a2]]
   have q42:=ret42 (is:=is) (orc:=orc) hi a1 a2 b1 b2
   rcases hlaw with ⟨rfl,rfl|rfl⟩|⟨rfl,rfl,hw1,hw2⟩
   ·refine kQ ?_
    refine kC sh27 rfl ?_
    refine o_see 185 rfl (fun _=>rfl) hUa ?_
    refine zC rfl (zC rfl (za rfl (qb) (.lrefl _) (zC rfl (kw rfl (kw rfl (zl rfl ze35 ?_))))))
    refine zR rfl (ze _ _) sh35 rfl rfl rfl rfl rfl ?_
    refine zE rfl (zA (kQ (zC rfl (ku rfl (zC rfl (kf rfl (zC rfl (kf rfl (zC rfl (kf rfl (ku rfl (kf rfl (zC rfl (ke rfl (ke rfl ?_)))))))))))))))
    refine kf rfl (kF rfl ?_)
    refine kF rfl ?_
    refine zC rfl (ke rfl (ke rfl (ke rfl (zCd rfl rfl rfl rfl ?_))))
    refine zCd rfl rfl rfl rfl ?_
    refine ke rfl (ke rfl (zCd rfl rfl rfl rfl ?_))
    refine zCd rfl rfl rfl rfl ?_
    refine zCd rfl rfl rfl rfl ?_
    refine ke rfl (kF rfl ?_)
    refine zC rfl (kf rfl (za rfl (r21) (.lrefl _) (kF rfl ?_)))
    refine zE rfl (zA (yP ?_))
    refine⟨.inr rfl,_,.cons _ _ _ _ (.tmp 4) .nil,?_⟩
    exact .refl _
   ·refine kQ ?_
    refine kC sh27 rfl ?_
    refine o_see 185 rfl (fun _=>rfl) hUa ?_
    refine zC rfl (zC rfl (za rfl (qb) (.lrefl _) (zC rfl (kw rfl (kw rfl (zl rfl ze35 ?_))))))
    refine zR rfl (ze _ _) sh35 rfl rfl rfl rfl rfl ?_
    refine zE rfl (zA (kQ (zC rfl (ku rfl (zC rfl (kf rfl (zC rfl (kf rfl (zC rfl (kf rfl (ku rfl (kf rfl (zC rfl (kf rfl (zC rfl ?_)))))))))))))))
    refine kf rfl (ku rfl (kf rfl (kE rfl ?_)))
    refine kF rfl ?_
    refine zC rfl (ke rfl (ke rfl (ke rfl (zCd rfl rfl rfl rfl ?_))))
    refine zCd rfl rfl rfl rfl ?_
    refine ke rfl (ke rfl (zCd rfl rfl rfl rfl ?_))
    refine zCd rfl rfl rfl rfl ?_
    refine zCd rfl rfl rfl rfl ?_
    refine ke rfl (kF rfl ?_)
    refine zC rfl (kf rfl (za rfl (r21) (.lrefl _) (kF rfl ?_)))
    refine zE rfl (zA (yP ?_))
    refine⟨.inr rfl,_,.cons _ _ _ _ (.tmp 4) .nil,?_⟩
    exact .refl _
   ·have hw1:b1≤a1:=hw1
    have hw2:a2≤b2:=hw2
    rw[kG hw1,kG hw2]at q42
    have q42:RetP Tryz.prog is orc 42 [yk a1 a2,yk b1 b2] (.bool true):=q42
    refine kQ (kC sh27 rfl ?_)
    refine o_see 185 rfl (fun _=>rfl) hUa ?_
    refine zC rfl (zC rfl (za rfl (qb) (.lrefl _) (zC rfl (kw rfl (kw rfl (zl rfl ze35 ?_))))))
    refine zR rfl (ze _ _) sh35 rfl rfl rfl rfl rfl ?_
    refine zE rfl (zA (kQ (zC rfl (ku rfl (zC rfl (ke rfl (ke rfl (ke rfl (ke rfl (zCd rfl rfl rfl rfl ?_))))))))))
    refine zCd rfl rfl rfl rfl ?_
    refine ke rfl (kE rfl ?_)
    refine zC rfl (kf rfl (zC rfl (kf rfl (ku rfl (kf rfl (zC rfl (kf rfl (zC rfl (kf rfl (ku rfl (kf rfl (kF rfl ?_))))))))))))
    refine kf rfl (zC rfl (kf rfl (zu rfl rfl (at_ps hat) sh35 rfl ?_)))
    refine kf rfl (zu rfl rfl (wt _ _ _) sh35 rfl ?_)
    refine kf rfl (za rfl (q42) (.lrefl _) (kf rfl (kF rfl ?_)))
    refine kE rfl ?_
    refine zC rfl (kf rfl (za rfl (r21) (.lrefl _) (kF rfl ?_)))
    refine zE rfl (zA (yP ?_))
    refine⟨.inr rfl,_,.cons _ _ _ _ (.tmp 4) .nil,?_⟩
    exact .refl _
end
end Go.Proofs.YtpckmojdekdbbaaGreat.settles
