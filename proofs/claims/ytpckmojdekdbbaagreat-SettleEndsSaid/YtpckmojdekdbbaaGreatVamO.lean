import Derived.Test.YtpckmojdekdbbaaGreatVamN
import GoSem.ClaimChange
import Derived.Below
import Derived.WideShapes
set_option linter.unusedVariables false
set_option linter.unusedSimpArgs false
namespace Vam
open Go
def tileB(P:Program):Nat→List Field→Bool
 |_,[]=>true
 |o,f::fs=>Nat.beq f.offset o&&tileB P (o+P.cellsOf f.type) fs
def sumF(P:Program)(fs:List Field):Nat:=(fs.map fun f=>P.cellsOf f.type).sum
def plainT(P:Program):Nat→TypeId→Bool
 |0,_=>false
 |k+1,t=>match P.underlying t with
  |some .bool=>true
  |some (.int _)=>true
  |some .string=>true
  |some (.slice e)=>plainT P k e&&Nat.blt 0 (P.cellsOf e)
  |some (.struct fs)=>(fs.toList.all fun f=>plainT P (k+1 - 1) f.type)&&tileB P 0 fs.toList&&Nat.beq (sumF P fs.toList) (P.cellsOf t)
  |some (.array n e)=>plainT P (k+1 - 1) e&&Nat.beq (n*P.cellsOf e) (P.cellsOf t)
  |_=>false
def eU(P:Program)(e:TypeId)(cs:List U):U:=match P.underlying e with
 |some (.struct _)=>.agg cs
 |some (.array _ _)=>.agg cs
 |_=>cs.headD .junk
mutual
inductive Shp(P:Program):TypeId→List U→Prop where
 |bool (t:TypeId) (b:Bool):P.underlying t=some .bool→Shp P t [.bool b]
 |int (t:TypeId) (k:IntKind) (n:Int):P.underlying t=some (.int k)→(Lit.int k n).wf=true→Shp P t [.int k n]
 |str (t:TypeId) (s:List Nat):P.underlying t=some .string→Shp P t [.str s]
 |slice (t e:TypeId) (css:List (List U)):P.underlying t=some (.slice e)→ShpL P e css→Shp P t [.lst .ro (P.cellsOf e) (css.map (eU P e))]
 |struct (t:TypeId) (fs:Array Field) (cs:List U):P.underlying t=some (.struct fs)→ShpF P fs.toList cs→Shp P t cs
 |array (t:TypeId) (n:Nat) (e:TypeId) (css:List (List U)):P.underlying t=some (.array n e)→ShpL P e css→css.length=n→Shp P t css.flatten
inductive ShpL(P:Program):TypeId→List (List U)→Prop where
 |nil (e:TypeId):ShpL P e []
 |cons (e:TypeId) (cs:List U) (css:List (List U)):Shp P e cs→ShpL P e css→ShpL P e (cs::css)
inductive ShpF(P:Program):List Field→List U→Prop where
 |nil:ShpF P [] []
 |cons (f:Field) (fs:List Field) (cs ds:List U):Shp P f.type cs→ShpF P fs ds→ShpF P (f::fs) (cs++ds)
end
structure EnS(P:Program)(w:World)(φ:Phi)(C:CH)(S:SMap):Prop where
 rel:Rel P φ C w
 fz:C.fz=0
 mem:∀b l,S b=some l→b.wf∧Before b C.n∧C.get b=some (.arg (zF l))
 arg:∀b k,φ b=some k→∃l,C.get b=some (.arg l)
theorem EnS.memOk{P:Program}{w:World}{φ:Phi}{C:CH}{S:SMap}(h:EnS P w φ C S):MemOk S C:=⟨h.rel.nok,fun b l hb=>⟨(h.mem b l hb).1,(h.mem b l hb).2.1,.inr (h.mem b l hb).2.2⟩⟩
variable {P:Program}{w:World}{φ:Phi}{C:CH}{S:SMap}{Hh:Type}{enc:TypeId×Value→Hh}
theorem LR_app{φ:Phi}:∀{l:List V} {vs:List Value} {m:List V} {ws:List Value},LR φ (zF l) vs→LR φ (zF m) ws→LR φ (zF (l++m)) (vs++ws):=by
 intro l
 induction l with
 |nil=>intro vs m ws h k;cases(show LR φ .nil vs from h);exact k
 |cons x l ih=>intro vs m ws h k;cases(show LR φ (.cons x (zF l)) vs from h)with|cons _ _ v vs h1 h2=>exact .cons _ _ _ _ h1 (ih h2 k)
theorem LR_len{φ:Phi}{l:List V}{vs:List Value}(h:LR φ (zF l) vs):l.length=vs.length:=by
 have h1:=LR.len h
 have h2:=zAR (zF l) 0
 rw[zBV]at h2
 omega
def EnR(P:Program)(w:World)(φ:Phi)(S:SMap)(k:Nat)(cs:List Value)(R:List U→Prop):Prop:=
 ∃φ' C' S' vs us,EnS P w φ' C' S'∧φ.le φ'∧S.le S'∧LR φ' (zF vs) cs∧LU φ0 S' vs us∧R us∧∀u∈us,Dat k u
theorem eU_cells{e:TypeId}{cs:List U}(h:Shp P e cs):zx (eU P e cs)=cs:=by
 cases h with
 |bool _ b hu=>simp[eU,hu,zx]
 |int _ k n hu _=>simp[eU,hu,zx]
 |str _ s hu=>simp[eU,hu,zx]
 |slice _ e css hu _=>simp[eU,hu,zx]
 |struct _ fs cs hu _=>simp[eU,hu,zx]
 |array _ n e css hu _ _=>simp[eU,hu,zx]
theorem eU_flat{e:TypeId}{css:List (List U)}(h:ShpL P e css):yW (css.map (eU P e))=css.flatten:=by
 induction css with
 |nil=>rfl
 |cons cs css ih=>
  cases h with
  |cons _ _ _ h1 h2=>
   have:=ih h2
   simp only[yW,List.map_cons,List.flatMap_cons,List.flatten_cons]at this ⊢
   rw[this,eU_cells h1]
theorem Dat.succ:∀{k:Nat} {u:U},Dat k u→Dat (k+1) u:=by
 intro k
 induction k with
 |zero=>intro u h;cases h
 |succ k ih=>
  intro u h
  cases h with
  |bool _ b=>exact .bool _ b
  |int _ kk n=>exact .int _ kk n
  |str _ s=>exact .str _ s
  |lst _ kd z es h1 h2=>exact .lst _ kd z es h1 fun c hc=>ih (h2 c hc)
  |agg _ cs h1=>exact .agg _ cs fun c hc=>ih (h1 c hc)
theorem wu{α β:Type}{f:α→Option β}{a:α}{l:List α}{r:List β}(h:(a::l).mapM f=some r):∃b bs,f a=some b∧l.mapM f=some bs∧r=b::bs:=by
 simp only[List.mapM_cons,Option.pure_def,Option.bind_eq_bind,Option.bind_eq_some_iff,Option.some.injEq]at h
 obtain⟨b,h1,bs,h2,h3⟩:=h
 exact⟨b,bs,h1,h2,h3.symm⟩
theorem mapM_len{α β:Type}{f:α→Option β}{l:List α}{r:List β}(h:l.mapM f=some r):r.length=l.length:=by
 induction l generalizing r with
 |nil=>simp at h;subst h;rfl
 |cons a l ih=>obtain⟨b,bs,_,h2,rfl⟩:=wu h;simp[ih h2]
theorem zFz{α β:Type}{f:α→Option β}{l:List α}{r:List β}(h:l.mapM f=some r){i:Nat}{a:α}(ha:l[i]? =some a):∃b,r[i]? =some b∧f a=some b:=by
 induction l generalizing r i with
 |nil=>simp at ha
 |cons x l ih=>
  obtain⟨b,bs,h1,h2,rfl⟩:=wu h
  cases i with
  |zero=>simp at ha;subst ha;exact⟨b,by simp,h1⟩
  |succ i=>simp at ha;obtain⟨c,g1,g2⟩:=ih h2 ha;exact⟨c,by simpa using g1,g2⟩
theorem cells_at{a:Addr}{n:Nat}{cs:List Value}(h:w.cells? 0 a n=some cs)(hn:0<n):a.spot=none∧cs.length=n∧∃arr el fr,w.heap[a.block]? =some (.cells arr el fr)∧∀i v,cs[i]? =some v→arr[a.off+i]? =some v:=by
 unfold World.cells? at h
 rw[if_pos (Nat.zero_le _)]at h
 have hlen:=mapM_len h
 simp at hlen
 obtain⟨v0,_,h0⟩:=zFz h (i:=0) (a:=0) (by simp[hn])
 have h0:w.cell? a=some v0:=by simpa[Addr.add]using h0
 unfold World.cell? at h0
 split at h0
 ·rename_i arr el fr harr
  split at h0
  ·cases h0
  ·rename_i hsp
   have hsp':a.spot=none:=by cases hq:a.spot with
    |none=>rfl
    |some _=>rw[hq]at hsp;simp at hsp
   refine⟨hsp',hlen,arr,el,fr,harr,fun i v hi=>?_⟩
   have hi':i<n:=by rw[←hlen];exact(List.getElem?_eq_some_iff.1 hi).1
   obtain⟨v',g1,g2⟩:=zFz h (i:=i) (a:=i) (by simp[hi'])
   rw[hi]at g1;cases g1
   have e:w.cell? (a.add i)=arr[a.off+i]? :=by
    unfold World.cell? Addr.add
    by_cases hz:i=0
    ·subst hz;simp[harr,hsp']
    ·simp[hz,harr]
   rw[←e];exact g2
 ·cases h0
theorem flatten_at{sz:Nat}{arr:Array Value}:∀(css:List (List Value)) (base:Nat),(∀(j:Nat) cs,css[j]? =some cs→cs.length=sz∧∀i v,cs[i]? =some v→arr[base+j*sz+i]? =some v)→∀(q:Nat) v,css.flatten[q]? =some v→arr[base+q]? =some v:=by
 intro css
 induction css with
 |nil=>intro base _ q v h;simp at h
 |cons cs css ih=>
  intro base h q v hq
  obtain⟨h1,h2⟩:=h 0 cs (by simp)
  rw[List.flatten_cons]at hq
  by_cases hlt:q<sz
  ·rw[List.getElem?_append_left (by omega)]at hq
   have:=h2 q v hq
   simpa using this
  ·rw[List.getElem?_append_right (by omega),h1]at hq
   have:=ih (base+sz) (fun j cs' hj=>by
    obtain⟨g1,g2⟩:=h (j+1) cs' (by simpa using hj)
    refine⟨g1,fun i v hi=>?_⟩
    have:=g2 i v hi
    rw[Nat.succ_mul]at this
    rwa [show base+sz+j*sz+i=base+(j*sz+sz)+i by omega]) (q - sz) v hq
   rwa [show base+sz+(q - sz)=base+q by omega]at this
abbrev Enters(enc:TypeId×Value→Hh)(P:Program)(w:World)(fuel:Nat):Prop:=∀{k:Nat} {t:TypeId} {cs:List Value} {d:DataW Hh} {ps:List MemPlace} {φ:Phi} {C:CH} {S:SMap},
 DataW.trod enc P w 0 (fun _=>true) true fuel t cs=some (d,ps)→plainT P k t=true→EnS P w φ C S→EnR P w φ S k cs (Shp P t)
theorem elems_enter{fuel:Nat}(IH:Enters enc P w fuel){e:TypeId}{sz k:Nat}{a:Addr}(hp:plainT P k e=true):∀(is:List Nat) {ds:List (DataW Hh×List MemPlace)} {φ:Phi} {C:CH} {S:SMap},
  (is.mapM fun i=>(w.cells? 0 (a.add (i*sz)) sz).bind (DataW.trod enc P w 0 (fun _=>true) true fuel e))=some ds→EnS P w φ C S→
  ∃css:List (List Value),css.length=is.length∧(∀(j i:Nat),is[j]? =some i→∃cs,css[j]? =some cs∧w.cells? 0 (a.add (i*sz)) sz=some cs)∧
   EnR P w φ S k css.flatten fun us=>∃uss,us=uss.flatten∧ShpL P e uss∧uss.length=is.length∧∀u∈uss,u.length=sz:=by
 intro is
 induction is with
 |nil=>
  intro ds φ C S _ hE
  exact⟨[],rfl,fun j i h=>(by simp at h),φ,C,S,[],[],hE,Phi.le_refl φ,S.le_refl,.nil,.nil,⟨[],rfl,.nil e,rfl,fun u hu=>(by cases hu)⟩,fun u hu=>(by cases hu)⟩
 |cons i is ih=>
  intro ds φ C S h hE
  obtain⟨b,bs,h1,h2,rfl⟩:=wu h
  obtain⟨cs,h3,h4⟩:=Option.bind_eq_some_iff.1 h1
  obtain⟨d,ps⟩:=b
  obtain⟨φ1,C1,S1,vs1,us1,a1,a2,a3,a4,a5,a6,a7⟩:=IH h4 hp hE
  obtain⟨css,b0,b1,φ2,C2,S2,vs2,us2,b2,b3,b4,b5,b6,⟨uss,rfl,b7,b8,bl⟩,b9⟩:=ih h2 a1
  refine⟨cs::css,by simp[b0],fun j x hj=>?_,φ2,C2,S2,vs1++vs2,us1++uss.flatten,b2,Phi.le_trans a2 b3,SMap.le_trans a3 b4,?_,LU.append (a5.mono φ0.le_refl b4) b6,⟨us1::uss,rfl,.cons e us1 uss a6 b7,by simp[b8],fun u hu=>?_⟩,fun u hu=>?_⟩
  ·cases j with
   |zero=>simp at hj;subst hj;exact⟨cs,by simp,h3⟩
   |succ j=>simp at hj;obtain⟨c,g1,g2⟩:=b1 j x hj;exact⟨c,by simpa using g1,g2⟩
  ·rw[List.flatten_cons];exact LR_app (RR.mono b3 a4) b5
  ·rcases List.mem_cons.1 hu with rfl|hu
   ·rw[←a5.len,LR_len a4]
    unfold World.cells? at h3
    rw[if_pos (Nat.zero_le _)]at h3
    simpa using mapM_len h3
   ·exact bl u hu
  ·rcases List.mem_append.1 hu with hu|hu
   ·exact a7 u hu
   ·exact b9 u hu
theorem fields_enter{fuel:Nat}(IH:Enters enc P w fuel){k:Nat}{cs:List Value}:∀(fs:List Field) (o:Nat) {ds:List (DataW Hh×List MemPlace)} {φ:Phi} {C:CH} {S:SMap},tileB P o fs=true→(fs.all fun f=>plainT P k f.type)=true→
  (fs.mapM fun f=>DataW.trod enc P w 0 (fun _=>true) true fuel f.type ((cs.drop f.offset).take (P.cellsOf f.type)))=some ds→EnS P w φ C S→EnR P w φ S k ((cs.drop o).take (sumF P fs)) (ShpF P fs):=by
 intro fs
 induction fs with
 |nil=>
  intro o ds φ C S _ _ _ hE
  exact⟨φ,C,S,[],[],hE,Phi.le_refl φ,S.le_refl,by simp[sumF];exact .nil,.nil,.nil,fun u hu=>(by cases hu)⟩
 |cons f fs ih=>
  intro o ds φ C S ht hp h hE
  simp only[tileB,Bool.and_eq_true]at ht
  simp only[List.all_cons,Bool.and_eq_true]at hp
  have ho:=zl ht.1
  obtain⟨b,bs,h1,h2,rfl⟩:=wu h
  obtain⟨d,ps⟩:=b
  obtain⟨φ1,C1,S1,vs1,us1,a1,a2,a3,a4,a5,a6,a7⟩:=IH h1 hp.1 hE
  obtain⟨φ2,C2,S2,vs2,us2,b2,b3,b4,b5,b6,b7,b9⟩:=ih (o+P.cellsOf f.type) ht.2 hp.2 h2 a1
  refine⟨φ2,C2,S2,vs1++vs2,us1++us2,b2,Phi.le_trans a2 b3,SMap.le_trans a3 b4,?_,LU.append (a5.mono φ0.le_refl b4) b6,.cons f fs us1 us2 a6 b7,fun u hu=>?_⟩
  ·have e:(cs.drop o).take (sumF P (f::fs))=(cs.drop f.offset).take (P.cellsOf f.type)++(cs.drop (o+P.cellsOf f.type)).take (sumF P fs):=by
    rw[ho]
    show(cs.drop o).take (P.cellsOf f.type+sumF P fs)=_
    rw[List.take_add,List.drop_drop]
   rw[e];exact LR_app (RR.mono b3 a4) b5
  ·rcases List.mem_append.1 hu with hu|hu
   ·exact a7 u hu
   ·exact b9 u hu
theorem array_enter{fuel:Nat}(IH:Enters enc P w fuel){k:Nat}{e:TypeId}{cs:List Value}(hp:plainT P k e=true):∀(m o:Nat) {ds:List (DataW Hh×List MemPlace)} {φ:Phi} {C:CH} {S:SMap},
  ((List.range' o m).mapM fun i=>DataW.trod enc P w 0 (fun _=>true) true fuel e ((cs.drop (i*P.cellsOf e)).take (P.cellsOf e)))=some ds→EnS P w φ C S→
  EnR P w φ S k ((cs.drop (o*P.cellsOf e)).take (m*P.cellsOf e)) fun us=>∃css,us=css.flatten∧ShpL P e css∧css.length=m:=by
 intro m
 induction m with
 |zero=>
  intro o ds φ C S _ hE
  exact⟨φ,C,S,[],[],hE,Phi.le_refl φ,S.le_refl,by simp;exact .nil,.nil,⟨[],rfl,.nil e,rfl⟩,fun u hu=>(by cases hu)⟩
 |succ m ih=>
  intro o ds φ C S h hE
  rw[List.range'_succ]at h
  obtain⟨b,bs,h1,h2,rfl⟩:=wu h
  obtain⟨d,ps⟩:=b
  obtain⟨φ1,C1,S1,vs1,us1,a1,a2,a3,a4,a5,a6,a7⟩:=IH h1 hp hE
  obtain⟨φ2,C2,S2,vs2,us2,b2,b3,b4,b5,b6,⟨css,rfl,b7,b8⟩,b9⟩:=ih (o+1) h2 a1
  refine⟨φ2,C2,S2,vs1++vs2,us1++css.flatten,b2,Phi.le_trans a2 b3,SMap.le_trans a3 b4,?_,LU.append (a5.mono φ0.le_refl b4) b6,⟨us1::css,rfl,.cons e us1 css a6 b7,by simp[b8]⟩,fun u hu=>?_⟩
  ·have ee:(cs.drop (o*P.cellsOf e)).take ((m+1)*P.cellsOf e)=(cs.drop (o*P.cellsOf e)).take (P.cellsOf e)++(cs.drop ((o+1)*P.cellsOf e)).take (m*P.cellsOf e):=by
    rw[Nat.succ_mul,Nat.add_comm (m*P.cellsOf e),List.take_add,List.drop_drop,Nat.succ_mul]
   rw[ee];exact LR_app (RR.mono b3 a4) b5
  ·rcases List.mem_append.1 hu with hu|hu
   ·exact a7 u hu
   ·exact b9 u hu
theorem enter:∀fuel,Enters enc P w fuel:=by
 intro fuel
 induction fuel with
 |zero=>intro k t cs d ps φ C S h;simp[DataW.trod]at h
 |succ fuel IH=>
  intro k t cs d ps φ C S h hp hE
  cases k with
  |zero=>simp[plainT]at hp
  |succ k=>
   unfold plainT at hp
   have one:∀(v:V) (x:Value) (u:U),cs=[x]→VR φ v x→VU φ0 S v u→Dat (k+1) u→Shp P t [u]→EnR P w φ S (k+1) cs (Shp P t):=by
    intro v x u hc h1 h2 h3 h4
    subst hc
    exact⟨φ,C,S,[v],[u],hE,Phi.le_refl φ,S.le_refl,.cons _ _ _ _ h1 .nil,.cons _ _ _ _ h2 .nil,h4,fun w hw=>by rcases List.mem_singleton.1 hw with rfl;exact h3⟩
   unfold DataW.trod at h
   split at h
   ·rename_i b hu
    exact one _ _ _ rfl (.bool b) (.bool b) (.bool _ b) (.bool t b hu)
   ·rename_i kk k' n hu
    split at h
    ·rename_i hk
     obtain⟨rfl,hwf⟩:=hk
     exact one _ _ _ rfl (.int k' n) (.int k' n) (.int _ _ _) (.int t k' n hu hwf)
    ·cases h
   ·rename_i hu;rw[hu]at hp;cases hp
   ·rename_i s hu
    exact one _ _ _ rfl (.str s) (.str (bytesOf s)) (.str _ _) (.str t _ hu)
   ·rename_i hu;rw[hu]at hp;cases hp
   ·rename_i hu;rw[hu]at hp;cases hp
   ·rename_i e hu
    exact one .nils _ (.lst .ro (P.cellsOf e) []) rfl .nils (.nils _ _) (.lst _ _ _ _ (by simp) (by simp[yW])) (.slice t e [] hu (.nil e))
   ·rename_i e a len cap hu
    rw[hu]at hp
    simp only[Bool.and_eq_true]at hp
    obtain⟨hpe,hz⟩:=hp
    have hz:=yu hz
    simp only[Nat.zero_le,true_and]at h
    split at h
    ·rename_i hcap
     obtain⟨elems,h1,h2⟩:=Option.bind_eq_some_iff.1 h
     obtain⟨rest,h3,h4⟩:=Option.map_eq_some_iff.1 h2
     rw[if_pos trivial]at h3
     obtain⟨css,b0,b1,φ1,C1,S1,vs,us,b2,b3,b4,b5,b6,⟨uss,rfl,b7,b8,bl⟩,b9⟩:=elems_enter @IH hpe (List.range len) h1 hE
     simp only[List.length_range]at b0 b8
     by_cases hc0:cap=0
     ·have hl0:len=0:=by omega
      subst hc0;subst hl0
      exact one (.slice .over 0 0 (capX 0) (P.cellsOf e)) _ (.lst .ro (P.cellsOf e) []) rfl (.empty _ a) (.over _ _ _ hz (.inl rfl)) (.lst _ _ _ _ (by simp) (by simp[yW])) (.slice t e [] hu (.nil e))
     ·
      have hat:∀i,i<cap→∃cs,w.cells? 0 (a.add (i*P.cellsOf e)) (P.cellsOf e)=some cs:=by
       intro i hi
       by_cases hil:i<len
       ·obtain⟨b,_,g2⟩:=zFz h1 (i:=i) (a:=i) (by simp[hil])
        obtain⟨cs,g3,_⟩:=Option.bind_eq_some_iff.1 g2
        exact⟨cs,g3⟩
       ·obtain⟨b,_,g2⟩:=zFz h3 (i:=i - len) (a:=i - len) (by rw[List.getElem?_range (by omega)])
        obtain⟨cs,g3,_⟩:=Option.bind_eq_some_iff.1 g2
        rw[show len+(i - len)=i by omega]at g3
        exact⟨cs,g3⟩
      obtain⟨cs0,hcs0⟩:=hat 0 (by omega)
      rw[Nat.zero_mul,show a.add 0=a by simp[Addr.add]]at hcs0
      obtain⟨hsp,_,arr,el,fr,harr,_⟩:=cells_at hcs0 hz
      have hadd:∀n,(a.add n).block=a.block∧(a.add n).off=a.off+n:=by
       intro n;unfold Addr.add;split
       ·rename_i e;subst e;exact⟨rfl,rfl⟩
       ·exact⟨rfl,rfl⟩
      have hrow:∀i cs,w.cells? 0 (a.add (i*P.cellsOf e)) (P.cellsOf e)=some cs→cs.length=P.cellsOf e∧∀j v,cs[j]? =some v→arr[a.off+i*P.cellsOf e+j]? =some v:=by
       intro i cs hcs
       obtain⟨_,g1,arr',el',fr',g2,g3⟩:=cells_at hcs hz
       rw[(hadd _).1,harr]at g2
       cases g2
       refine⟨g1,fun j v hj=>?_⟩
       have:=g3 j v hj
       rwa [(hadd _).2]at this
      have hsize:a.off+cap*P.cellsOf e≤arr.size:=by
       obtain⟨cs,hcs⟩:=hat (cap - 1) (by omega)
       obtain⟨g1,g2⟩:=hrow _ cs hcs
       obtain⟨v,hv⟩:∃v,cs[P.cellsOf e - 1]? =some v:=⟨cs[P.cellsOf e - 1]'(by omega),by simp⟩
       have g3:=g2 _ v hv
       obtain⟨g4,_⟩:=Array.getElem?_eq_some_iff.1 g3
       have:cap*P.cellsOf e=(cap - 1)*P.cellsOf e+P.cellsOf e:=by rw[←Nat.succ_mul];congr 1;omega
       omega
      have hflat:∀(q:Nat) v,css.flatten[q]? =some v→arr[a.off+q]? =some v:=flatten_at css a.off fun j cs hj=>by
       have hjl:j<len:=by rw[←b0];exact(List.getElem?_eq_some_iff.1 hj).1
       obtain⟨cs',g1,g2⟩:=b1 j j (by simp[hjl])
       rw[hj]at g1;cases g1
       exact hrow j cs g2
      have hclen:css.flatten.length=len*P.cellsOf e:=by
       have key:∀(l:List (List Value)),(∀c∈l,c.length=P.cellsOf e)→l.flatten.length=l.length*P.cellsOf e:=by
        intro l
        induction l with
        |nil=>intro _;simp
        |cons c l ih=>intro hl;rw[List.flatten_cons,List.length_append,ih fun x hx=>hl x (List.mem_cons_of_mem _ hx),hl c List.mem_cons_self,List.length_cons,Nat.succ_mul];omega
       rw[key css fun c hc=>?_,b0]
       obtain⟨j,hj⟩:=List.getElem?_of_mem hc
       have hjl:j<len:=by rw[←b0];exact(List.getElem?_eq_some_iff.1 hj).1
       obtain⟨cs',g1,g2⟩:=b1 j j (by simp[hjl])
       rw[hj]at g1;cases g1
       exact(hrow j c g2).1
      obtain⟨C2,c1,c2,c3,c4⟩:=zAp (α:=Nat) 0 b2.rel.nok (.arg (zF vs)) (fun _ _=>1)
      have hvl:vs.length=len*P.cellsOf e:=by rw[LR_len b5,hclen]
      have hcapE:capE (capA len)=false:=by show Nat.beq ((2*len) % 2) 1=false;rw[Nat.mul_mod_right];rfl
      have hcapN:capN (capA len)=len:=by show(2*len) / 2=len;omega
      have hr:a.block<w.heap.size:=by
       obtain⟨g,_⟩:=Array.getElem?_eq_some_iff.1 harr;exact g
      have hnoneφ:=b2.rel.none_at_n b2.rel.nok
      have hnoneS:S1 C1.n=none:=by
       cases hS:S1 C1.n with
       |none=>rfl
       |some l=>exact absurd (b2.mem _ _ hS).2.1 (zj b2.rel.nok)
      have hleφ:=Phi.le_with (φ:=φ1) (⟨a.block,a.off,cap*P.cellsOf e⟩:Loc) hnoneφ
      have hleS:=SMap.le_with (S:=S1) vs hnoneS
      have hrel:Rel P (φ1.with C1.n ⟨a.block,a.off,cap*P.cellsOf e⟩) C2 w:=by
       refine Rel.adopt b2.rel b2.rel.nok hr c2 c4 ?_ ?_ (fun hx=>hx.elim)
       ·refine⟨arr,el,fr,harr,hsize,?_,css.flatten,RR.mono hleφ b5,hflat⟩
        rw[LR.len b5,hclen]
        exact Nat.mul_le_mul_right _ hcap.1
       ·intro c l y hc _ hy
        obtain⟨m,hm⟩:=b2.arg c l hc
        rw[hm]at hy;cases hy
        exact⟨.inr (.inr (.inl ⟨fun h=>h.elim,fun h=>h.elim⟩)),.inr (.inr (.inl ⟨fun h=>h.elim,fun h=>h.elim⟩))⟩
      have hE2:EnS P w (φ1.with C1.n ⟨a.block,a.off,cap*P.cellsOf e⟩) C2 (S1.with C1.n vs):=by
       refine⟨hrel,c3.trans b2.fz,?_,?_⟩
       ·intro b l hb
        unfold SMap.with at hb
        split at hb
        ·rename_i ee;subst ee;cases hb
         exact⟨b2.rel.nok,by rw[c2];exact Before.self b2.rel.nok,by rw[c4 _ b2.rel.nok,if_pos rfl]⟩
        ·obtain⟨r1,r2,r3⟩:=b2.mem b l hb
         exact⟨r1,by rw[c2];exact Before.next b2.rel.nok r2,by rw[c4 b r1,if_neg (by assumption)];exact r3⟩
       ·intro b k' hb
        by_cases eb:b=C1.n
        ·subst eb;exact⟨_,by rw[c4 _ b2.rel.nok,if_pos rfl]⟩
        ·rw[Phi.with_ne _ eb]at hb
         obtain⟨l,hl⟩:=b2.arg b k' hb
         exact⟨l,by rw[c4 b (b2.rel.wf b k' hb).1,if_neg eb];exact hl⟩
      have hfl:=eU_flat b7
      refine⟨_,C2,S1.with C1.n vs,[.slice C1.n 0 len (capA len) (P.cellsOf e)],[.lst .ro (P.cellsOf e) (uss.map (eU P e))],hE2,Phi.le_trans b3 hleφ,SMap.le_trans b4 hleS,?_,?_,.slice t e uss hu b7,?_⟩
      ·refine .cons _ _ _ _ ?_ .nil
       have:a=⟨a.block,a.off+0,none⟩:=by cases a;simp at hsp;subst hsp;rfl
       rw[this]
       exact .slice C1.n 0 len (capA len) (P.cellsOf e) cap ⟨a.block,a.off,cap*P.cellsOf e⟩ (Phi.with_self _ _ _) ⟨by rw[hcapN];exact Nat.le_refl _,fun hf=>(by rw[hcapE]at hf;cases hf),fun _=>⟨by rw[hcapN];exact hcap.1,by show 0+cap*P.cellsOf e≤cap*P.cellsOf e;omega⟩⟩
      ·refine .cons _ _ _ _ ?_ .nil
       refine .slice C1.n 0 len (capA len) (P.cellsOf e) vs vs [] .ro _ (SMap.with_self _ _ _) (by simp) ?_ ?_ (by simp[b8]) ⟨Nat.zero_le _,by rw[hcapN];exact Nat.le_refl _,trivial⟩ hz
       ·rw[hfl];exact b6.mono φ0.le_refl hleS
       ·intro u hu'
        obtain⟨c,hc,rfl⟩:=List.mem_map.1 hu'
        have key:∀(l:List (List U)),ShpL P e l→∀c∈l,Shp P e c:=by
         intro l
         induction l with
         |nil=>intro _ c hc;cases hc
         |cons x l ih=>intro hl c hc;cases hl with
          | cons _ _ _ g1 g2 => rcases List.mem_cons.1 hc with rfl | hc
                                · exact g1
                                · exact ih g2 c hc
        rw[eU_cells (key uss b7 c hc)]
        exact bl c hc
      ·intro u hu'
       rcases List.mem_singleton.1 hu' with rfl
       exact .lst _ _ _ _ (by simp) (by rw[hfl];exact b9)
    ·cases h
   ·rename_i fs hu
    rw[hu]at hp
    simp only[Bool.and_eq_true]at hp
    split at h
    ·rename_i hlen
     obtain⟨xs,h1,_⟩:=Option.map_eq_some_iff.1 h
     obtain⟨φ1,C1,S1,vs,us,b2,b3,b4,b5,b6,b7,b9⟩:=fields_enter (k:=k) @IH fs.toList 0 hp.1.2 hp.1.1 h1 hE
     have hsum:=zl hp.2
     rw[List.drop_zero,hsum,←hlen,List.take_length]at b5
     exact⟨φ1,C1,S1,vs,us,b2,b3,b4,b5,b6,.struct t fs us hu b7,fun u hu'=>(b9 u hu').succ⟩
    ·cases h
   ·rename_i n e hu
    rw[hu]at hp
    simp only[Bool.and_eq_true]at hp
    split at h
    ·rename_i hlen
     obtain⟨xs,h1,_⟩:=Option.map_eq_some_iff.1 h
     rw[List.range_eq_range']at h1
     obtain⟨φ1,C1,S1,vs,us,b2,b3,b4,b5,b6,⟨css,rfl,b7,b8⟩,b9⟩:=array_enter (k:=k) @IH hp.1 n 0 h1 hE
     have hsum:=zl hp.2
     rw[Nat.zero_mul,List.drop_zero,hsum,←hlen,List.take_length]at b5
     exact⟨φ1,C1,S1,vs,_,b2,b3,b4,b5,b6,.array t n e css hu b7 b8,fun u hu'=>(b9 u hu').succ⟩
    ·cases h
   all_goals (rename_i hu;first|(rw[hu]at hp;cases hp)|cases h)
def ShpA(P:Program)(t:TypeId)(u:U):Prop:=match P.underlying t with
 |some (.struct _)=>∃cs,u=.agg cs∧Shp P t cs
 |some (.array _ _)=>∃cs,u=.agg cs∧Shp P t cs
 |_=>Shp P t [u]
inductive ShpAs(P:Program):List TypeId→List U→Prop where
 |nil:ShpAs P [] []
 |cons (t:TypeId) (ts:List TypeId) (u:U) (us:List U):ShpA P t u→ShpAs P ts us→ShpAs P (t::ts) (u::us)
theorem enter_one{t:TypeId}{v:Value}{d:DataW Hh}{ps:List MemPlace}{base:Nat}(hty:plainT P 7 t=true)(hok:Value.okWide P w .any base t v)(h:DataW.Trod enc P w 0 (fun _=>true) true t v d ps)(hE:EnS P w φ C S):
  ∃φ' C' S' x u,EnS P w φ' C' S'∧φ.le φ'∧S.le S'∧VR φ' x v∧VU φ0 S' x u∧ShpA P t u∧Dat 8 u:=by
 obtain⟨fuel,h⟩:=h
 obtain⟨φ1,C1,S1,vs,us,a1,a2,a3,a4,a5,a6,a7⟩:=enter fuel h hty hE
 have single:∀x,v.cells.toList=[x]→v=x→(∀fs,P.underlying t≠some (.struct fs))→(∀n e,P.underlying t≠some (.array n e))→∃φ' C' S' x u,EnS P w φ' C' S'∧φ.le φ'∧S.le S'∧VR φ' x v∧VU φ0 S' x u∧ShpA P t u∧Dat 8 u:=by
  intro x hx hvx n1 n2
  rw[hx]at a4
  cases vs with
  |nil=>cases a4
  |cons y vs=>
   cases(show LR φ1 (.cons y (zF vs)) [x]from a4)with
   |cons _ _ _ _ g1 g2=>
    cases vs with
    |cons z vs=>cases g2
    |nil=>
     cases a5 with
     |cons _ _ u us k1 k2=>
      cases k2
      refine⟨φ1,C1,S1,y,u,a1,a2,a3,by rw[hvx];exact g1,k1,?_,(a7 u List.mem_cons_self).succ⟩
      unfold ShpA
      split
      ·rename_i fs hu;exact absurd hu (n1 fs)
      ·rename_i n e hu;exact absurd hu (n2 n e)
      ·exact a6
 have hty':=hty
 unfold plainT at hty'
 split at hty'
 ·rename_i hu
  obtain⟨b,rfl⟩:=Go.WideShapes.okWide_bool hu hok
  exact single _ rfl rfl (by simp[hu]) (by simp[hu])
 ·rename_i kk hu
  obtain⟨n,rfl⟩:=Go.WideShapes.okWide_int hu hok
  exact single _ rfl rfl (by simp[hu]) (by simp[hu])
 ·rename_i hu
  obtain⟨n,rfl⟩:=Go.WideShapes.okWide_string hu hok
  exact single _ rfl rfl (by simp[hu]) (by simp[hu])
 ·rename_i e hu
  obtain⟨a,len,cap,rfl⟩:=Go.WideShapes.okWide_slice hu hok
  exact single _ rfl rfl (by simp[hu]) (by simp[hu])
 ·rename_i fs hu
  obtain⟨cs,rfl,_⟩:=Go.WideShapes.okWide_struct hu hok
  refine⟨φ1,C1,S1,.agg (zF vs),.agg us,a1,a2,a3,.agg _ _ a4,.agg _ _ a5,?_,.agg _ _ a7⟩
  unfold ShpA;rw[hu];exact⟨us,rfl,a6⟩
 ·rename_i n e hu
  have hok':=hok
  unfold Value.okWide at hok'
  rw[hu]at hok'
  obtain⟨cs,rfl,_⟩:=hok'
  refine⟨φ1,C1,S1,.agg (zF vs),.agg us,a1,a2,a3,.agg _ _ a4,.agg _ _ a5,?_,.agg _ _ a7⟩
  unfold ShpA;rw[hu];exact⟨us,rfl,a6⟩
 ·cases hty'
theorem enter_all{base:Nat}:∀{ts:List TypeId} {vs:List Value} {ds:List (DataW Hh)} {ps:List MemPlace} {φ:Phi} {C:CH} {S:SMap},DataW.TrodAll enc P w 0 (fun _=>true) true ts vs ds ps→(ts.all (plainT P 7))=true→
  (∀(j:Nat) t v,ts[j]? =some t→vs[j]? =some v→Value.okWide P w .any base t v)→EnS P w φ C S→
  ∃φ' C' S' xs us,EnS P w φ' C' S'∧LR φ' (zF xs) vs∧LU φ0 S' xs us∧ShpAs P ts us∧φ.le φ'∧S.le S':=by
 intro ts
 induction ts with
 |nil=>
  intro vs ds ps φ C S h _ _ hE
  cases vs with
  |nil=>exact⟨φ,C,S,[],[],hE,.nil,.nil,.nil,Phi.le_refl φ,S.le_refl⟩
  |cons _ _=>simp[DataW.TrodAll]at h
 |cons t ts ih=>
  intro vs ds ps φ C S h hp hok hE
  cases vs with
  |nil=>simp[DataW.TrodAll]at h
  |cons v vs=>
   cases ds with
   |nil=>simp[DataW.TrodAll]at h
   |cons d ds=>
    simp only[List.all_cons,Bool.and_eq_true]at hp
    obtain⟨p,q,h1,h2,_⟩:=h
    obtain⟨φ1,C1,S1,x,u,a1,a2,a3,a4,a5,a6,a7⟩:=enter_one hp.1 (hok 0 t v rfl rfl) h1 hE
    obtain⟨φ2,C2,S2,xs,us,b1,b2,b3,b4,b5,b6⟩:=ih h2 hp.2 (fun j t' v' g1 g2=>hok (j+1) t' v' (by simpa using g1) (by simpa using g2)) a1
    exact⟨φ2,C2,S2,x::xs,u::us,b1,.cons _ _ _ _ (RR.mono b5 a4) b2,.cons _ _ _ _ (a5.mono φ0.le_refl b6) b3,.cons _ _ _ _ a6 b4,Phi.le_trans a2 b5,SMap.le_trans a3 b6⟩
theorem EnS.start(P:Program)(w:World)(hg:GInv (fun _=>none) H0 w):EnS P w (fun _=>none) H0 (fun _=>none):=
 ⟨rel_start P w hg,rfl,fun b l h=>(by cases h),fun b k h=>(by cases h)⟩
theorem law_walk{is:FuncId→Bool}{orc:Known}(hm:P.follows .mixedOrders=true)(ho:KnownOk P orc){f:FuncId}{ts:List TypeId}{args:Array Value}{ds:List (DataW Hh)}{ps:List MemPlace}{base:Nat}
  (h:DataW.TrodAll enc P w 0 (fun _=>true) true ts args.toList ds ps) (hp:(ts.all (plainT P 7))=true) (hok:∀(j:Nat) t v,ts[j]? =some t→args[j]? =some v→Value.okWide P w .any base t v)
  (hr:∀us,ShpAs P ts us→RetP P is orc f us (.bool true)) (hg:GInv (fun _=>none) H0 w):Calls P f args w fun e w'=>e=.returned (.bool true)∧Go.RowKit.Below w.heap.size w w':=by
 obtain⟨φ,C,S,xs,us,a1,a2,a3,a4,_,_⟩:=enter_all h hp (fun j t v g1 g2=>hok j t v g1 (by simpa using g2)) (EnS.start P w hg)
 obtain⟨n0,v,H',S',h1,_,h3⟩:=(hr us a4).run S C xs a1.memOk (by rw[a1.fz];exact Nat.zero_le _) a3
 have hv:v=.bool true:=zDI h3
 subst hv
 obtain⟨_,hc⟩:=(soundW true hm ho n0).1 a1.rel a2 (h1 n0 (Nat.le_refl _))
 have hc':=callsIn_wide.1 (hc.mono (R':=fun e w'=>e=.returned (.bool true)∧Go.RowKit.Below w.heap.size w w') ?_)
 ·simpa using hc'
 ·rintro e w' ⟨x,φ',rfl,q1,q2,q3⟩
  cases q3
  refine⟨rfl,q2.os,q2.tape,q2.output,q2.size,fun k hk=>q2.frame k hk ?_⟩
  rintro b kk hb _ ⟨_,y,hy,hw⟩
  obtain⟨l,hl⟩:=a1.arg b kk hb
  rw[hl]at hy;cases hy;exact hw
end Vam
namespace Vam
open Go
variable {Pr:Prt}{φ φ':BMap}{S S':SMap}{s s':St}{tm tm':TT}{H H':CH}{P:Program}{is:FuncId→Bool}{orc:Known}
theorem nbL{us:List U}(h:∀u∈us,NB u){l:List V}(hl:LU φ S l us):LU φ0 S l us:=zDM hl fun _ _ hu hv=>h _ hu _ _ _ hv
theorem NB.junk:NB .junk:=fun _ _ v _=>.junk v
theorem NB.bool(b:Bool):NB (.bool b):=fun _ _ _ hv=>by cases hv;exact .bool _
theorem NB.int(k:IntKind)(n:Int):NB (.int k n):=fun _ _ _ hv=>by cases hv;exact .int _ _
theorem NB.fn{f:Nat}{a b:List U}(ha:∀u∈a,NB u)(hb:∀u∈b,NB u):NB (.fn f a b):=fun _ _ _ hv=>by
 cases hv with
 |fn _ A B _ _ h1 h2=>exact .fn f A B a b (nbL ha h1) (nbL hb h2)
theorem NB.agg{cs:List U}(h:∀c∈cs,NB c):NB (.agg cs):=fun _ _ _ hv=>by
 obtain⟨l,rfl,hl⟩:=zHq hv
 exact .agg _ _ (nbL h hl)
def zFj(u:U):Prop:=∀v,yU v u=none
def oldPrt(S:SMap)(H:CH):Prt:=⟨fun b=>b.wf∧Before b H.n,fun b=>b.wf∧Before b H.n∧S b=none,fun _=>False,fun _ h=>⟨h.1,h.2.1⟩⟩
theorem SR.frame(hm:MemOk S H)(hf:H.fz≤H.n.num){l:List V}{args:List U}(hl:LU φ0 S l args)(ho:∀u∈args,zFj u)(hn:args.length≤1024):
  SR (oldPrt S H) φ0 S (St.init args) (TT.ofV (zF l) 0 .leaf) H:=by
 have hlen:=hl.len
 have hget:∀j,j<1024→(TT.ofV (zF l) 0 .leaf).get j=(l[j]?).getD undef:=by
  intro j hj
  rw[ofV_get l 0 .leaf (by omega) j hj,if_pos (Nat.zero_le _),TT.get_leaf];rfl
 have hfr:∀j,j<1024→VU φ0 S ((TT.ofV (zF l) 0 .leaf).get j) ((St.init args).fr j):=by
  intro j hj
  rw[hget j hj]
  show VU φ0 S _ ((args[j]?).getD .junk)
  cases h:args[j]? with
  |none=>exact .junk _
  |some u=>obtain⟨v,h1,h2⟩:=hl.get h;rw[h1];exact h2
 have hat:∀lo v u,At φ0 (St.init args) (TT.ofV (zF l) 0 .leaf) H lo v u→yU v u=none:=by
  intro lo v u ha
  cases ha with
  |slot i hi=>
   show yU _ ((args[i]?).getD .junk)=none
   cases h:args[i]? with
   |none=>rfl
   |some u=>exact ho u (List.mem_of_getElem? h) _
  |cell a o b cs l e _ _ h1=>cases h1
 refine⟨hm.nok,hf,hfr,fun a cs h=>(by cases h),fun a b h=>(by cases h),fun a a' b h=>(by cases h),?_,?_,?_,fun p hp=>(by cases hp),fun b hb=>?_,fun b hb=>?_⟩
 ·intro b l hb
  obtain⟨q1,q2,q3⟩:=hm.mem b l hb
  exact⟨q1,q2,fun a h=>(by cases h),q3⟩
 ·intro lo v u b ha hb;rw[hat lo v u ha]at hb;cases hb
 ·intro lo lo' v u v' u' b ha ha' hb;rw[hat lo v u ha]at hb;cases hb
 ·exact⟨hb.1,hb.2,fun a h=>(by cases h),fun lo v u ha=>by rw[hat lo v u ha];simp⟩
 ·exact⟨⟨hb.1,hb.2.1⟩,hb.2.2⟩
theorem num_of_before{n m:Id}(hn:n.wf)(hm:m.wf)(h:∀b,Before b n→Before b m):n.num≤m.num:=by
 cases n with
 |over=>exact hn.elim
 |mk k a b c d e=>
  cases m with
  |over=>exact hm.elim
  |mk k' a' b' c' d' e'=>
   show k≤k'
   cases k with
   |zero=>exact Nat.zero_le _
   |succ k=>exact h (.mk k 0 .d0 .d0 .d0 .d0) (Nat.lt_succ_self k)
theorem zBJ{f:FuncId}{nt:Nat}{body:Code}{rs:List ResultVar}{args:List U}{r:U}(hb:bodyOf P f=some (nt,body,rs))(hp:pureFn P f=false)(hn:Nat.ble args.length nt=true)(hnt:Nat.ble nt 1024=true)
  (hd:∀u∈args,NB u∧zFj u) (hr:NB r) (hw:Wp P is orc body (St.init args) fun e s=>(e=.normal∨e=.ret)∧∃us,ResL P s rs us∧UW (.u (tupU us)) (.u r)):RetP P is orc f args r:=by
 refine⟨fun u hu=>(hd u hu).1,fun S H vs hm hfz hl=>?_⟩
 have hn:=Nat.le_of_ble_eq_true hn
 have hnt:=Nat.le_of_ble_eq_true hnt
 have hs0:=SR.frame hm hfz hl (fun u hu=>(hd u hu).2) (by omega)
 obtain⟨e,new,s1,tm1,C0,φ1,G1,⟨r0,n0,b1⟩,b2,_,b4,b5,b6,us,b7,b8⟩:=hw _ _ _ _ _ [] none f hs0 (fun b hb=>hb.elim) (RoOk.none _ _)
 obtain⟨C1,v,c1,b2,c2,c4,c5,c6⟩:=zFD b2 r0 (fun b hb h=>(r0.ok b hb).2.1 h.2) b7
 have b5:Kept (oldPrt S H) H C1:=⟨by rw[c5];exact b5.fz,fun b hb=>by rw[c4];exact b5.bef b hb,fun b hb=>by rw[c6 b hb.1 fun hn=>(r0.ok b hn).2.1 hb.2];exact b5.get b hb,fun b ho=>ho.elim⟩
 have c3:VU φ0 G1 v r:=hr _ _ _ (UW.vu c2 b8)
 have hplain:∀n,n0≤n→yG P (zO true P is orc n) f (zF vs) H (nt,body,rs)=.ok v C1:=by
  intro n hn'
  show cond (Nat.ble (lenV (zF vs) 0) nt) (zCK P rs ((zO true P is orc n).code body (TT.ofV (zF vs) 0 .leaf) [] none f H)) .no=_
  rw[zBV,Nat.add_zero,show Nat.ble vs.length nt=true by rw[Nat.ble_eq,hl.len];exact hn,b1 n hn']
  have hf:zFE P rs tm1 (new++[]) C0=.ok v C1:=c1
  rcases b6 with rfl|rfl
  ·exact hf
  ·exact hf
 have hcall:∀n,n0+1≤n→(zO true P is orc n).call f (zF vs) H=.ok v C1:=by
  intro n hn'
  cases n with
  |zero=>omega
  |succ n=>
   show opt .no (cond (pureFn P f) (cond (is f) (yg true P orc (zO true P is orc n) f (zF vs) H) (yc true P (zO true P is orc n) f (zF vs) H)) (yG P (zO true P is orc n) f (zF vs) H)) (bodyOf P f)=_
   rw[hb,hp]
   exact hplain n (by omega)
 refine⟨n0+1,v,C1,G1,hcall,⟨b2.nok,b5.fz,num_of_before hm.nok b2.nok b5.bef,b5.bef,fun b hw hb=>b5.get b ⟨hw,hb⟩,b4,fun b l q1 q2=>?_⟩,c3⟩
 obtain⟨w1,w2,_,w4⟩:=b2.mem b l q1
 refine⟨w1,fun hb=>?_,w2,w4⟩
 have:=(b2.pnew b ⟨w1,hb,q2⟩).2
 rw[q1]at this;cases this
end Vam
namespace Vam
open Go
variable {Pr:Prt}{φ φ':BMap}{S S':SMap}{s s':St}{tm tm':TT}{H H':CH}{P:Program}{is:FuncId→Bool}{orc:Known}
theorem Alloc.grow{x:Blk}(h:Alloc H H' x)(hn:H.n.wf):Grow2 S H S H':=
 ⟨by rw[h.n];exact(Id.next_ok hn).1,h.fz,by rw[h.n,(Id.next_ok hn).2];omega,fun b hb=>by rw[h.n];exact Before.next hn hb,fun b hw hb=>h.old hn hw hb,S.le_refl,fun b l h1 h2=>by rw[h1]at h2;cases h2⟩
def SB.odd(x:SB):Prop:=match x with
 | .map _=>True
 | .loop _ _=>True
 | .dead=>True
 |_=>False
def St.newS(s:St)(x:SB):St:={s with st:=s.st++[x]}
theorem SR.addS(hs:SR Pr φ S s tm H){x:SB}(hx:x.odd){b:Id}(hw:b.wf)(hb:Before b H.n)(hf:H.fz≤b.num)(hφ:∀a,φ a≠some b)(hS:S b=none)(hP: ¬ Pr b)(hok:SBOk (φ.with s.st.length b) S H s.st.length x):
  SR Pr (φ.with s.st.length b) S (s.newS x) tm H:=by
 have hle:=BMap.le_with b hs.none_st
 have nob:∀cs,[x][0]? ≠some (SB.box cs):=by intro cs h;simp at h;subst h;exact hx
 have key:∀lo v u,At (φ.with s.st.length b) (s.newS x) tm H lo v u→At φ s tm H lo v u:=by
  intro lo v u ha
  cases ha with
  |slot i hi=>exact .slot i hi
  |cell a o c cs' l' e' _ _ h1 h2 h3 h4 h5=>
   have h1:(s.st++[x])[a]? =some (.box cs'):=h1
   by_cases ea:a<s.st.length
   ·rw[List.getElem?_append_left ea]at h1
    have h2:φ a=some c:=by unfold BMap.with at h2;rw[if_neg (by omega)]at h2;exact h2
    exact .cell a o c cs' l' e' _ _ h1 h2 h3 h4 h5
   ·rw[List.getElem?_append_right (by omega)]at h1
    cases hq:a - s.st.length with
    |zero=>rw[hq]at h1;exact absurd h1 (nob _)
    |succ n=>rw[hq]at h1;simp at h1
 have key':∀lo v u,At φ s tm H lo v u→At (φ.with s.st.length b) (s.newS x) tm H lo v u:=by
  intro lo v u ha
  cases ha with
  |slot i hi=>exact .slot i hi
  |cell a o c cs' l' e' _ _ h1 h2 h3 h4 h5=>
   have ea:=(hs.dom a c h2).2.2.1
   exact .cell a o c cs' l' e' _ _ (by show(s.st++[x])[a]? =_;rw[List.getElem?_append_left ea];exact h1) (hle _ _ h2) h3 h4 h5
 refine⟨hs.nok,hs.fzn,fun i hi=>(hs.fr i hi).mono hle S.le_refl,?_,?_,?_,?_,fun lo v u c ha hc=>hs.own lo v u c (key _ _ _ ha) hc,fun lo lo' v u v' u' c ha ha' hc hc'=>hs.excl lo lo' v u v' u' c (key _ _ _ ha) (key _ _ _ ha') hc hc',?_,?_,hs.pnew⟩
 ·intro a y ha
  have ha:(s.st++[x])[a]? =some y:=ha
  by_cases ea:a<s.st.length
  ·rw[List.getElem?_append_left ea]at ha
   exact(hs.bx a y ha).move hle S.le_refl fun _ _=>rfl
  ·rw[List.getElem?_append_right (by omega)]at ha
   cases hq:a - s.st.length with
   |zero=>
    rw[hq]at ha
    have e1:y=x:=by simp at ha;exact ha.symm
    have e2:a=s.st.length:=by omega
    subst e1;subst e2;exact hok
   |succ n=>rw[hq]at ha;simp at ha
 ·intro a c ha
  unfold BMap.with at ha
  split at ha
  ·rename_i ea;cases ha
   exact⟨hw,hb,by rw[ea];show _<(s.st++[x]).length;simp,fun _=>hf⟩
  ·obtain⟨h1,h2,h3,h4⟩:=hs.dom a c ha
   exact⟨h1,h2,by show _<(s.st++[x]).length;simp;omega,fun q=>h4 (q.app h3)⟩
 ·intro a a' c ha ha'
  unfold BMap.with at ha ha'
  split at ha<;>split at ha'
  ·omega
  ·cases ha;exact absurd ha' (hφ a')
  ·cases ha';exact absurd ha (hφ a)
  ·exact hs.inj a a' c ha ha'
 ·intro c m hc
  obtain⟨h1,h2,h3,h4⟩:=hs.mem c m hc
  refine⟨h1,h2,?_,h4⟩
  intro a ha
  unfold BMap.with at ha
  split at ha
  ·cases ha;rw[hS]at hc;cases hc
  ·obtain⟨cs0,q⟩:=h3 a ha
   exact⟨cs0,by show(s.st++[x])[a]? =_;rw[List.getElem?_append_left (List.getElem?_eq_some_iff.1 q).1];exact q⟩
 ·intro p hp
  obtain⟨h1,v,u,h2,h3⟩:=hs.ali p hp
  exact⟨h1,v,u,key' _ _ _ h2,h3⟩
 ·intro c hc
  obtain⟨h1,h2,h3,h4⟩:=hs.prot c hc
  refine⟨h1,h2,?_,fun lo v u ha=>h4 lo v u (key _ _ _ ha)⟩
  intro a ha
  unfold BMap.with at ha
  split at ha
  ·cases ha;exact absurd hc hP
  ·obtain⟨cs0,q⟩:=h3 a ha
   exact⟨cs0,by show(s.st++[x])[a]? =_;rw[List.getElem?_append_left (List.getElem?_eq_some_iff.1 q).1];exact q⟩
theorem SR.allocS(hs:SR Pr φ S s tm H){x:SB}(hx:x.odd){blk:Blk}(hA:Alloc H H' blk)(hok:∀ψ:BMap,φ.le ψ→ψ s.st.length=some H.n→SBOk ψ S H' s.st.length x):
  SR Pr (φ.with s.st.length H.n) S (s.newS x) tm H'∧Kept Pr H H':=by
 obtain⟨g1,g2⟩:=hs.grow (hA.grow (S:=S) hs.nok)
 exact⟨g1.addS hx (b:=H.n) hs.nok (by rw[hA.n];exact Before.self hs.nok) (by rw[hA.fz];exact hs.fzn) hs.box_n hs.none_n (fun h=>zj hs.nok (hs.prot _ h).2.1) (hok _ (BMap.le_with _ hs.none_st) (BMap.with_self _ _ _)),g2⟩
theorem o_makeMap{all l:List Oper}{d:Nat}{t':TypeId}{t:TypeId}{p:String}{e:Array Edge}{a b:TypeId}{Q:St→Prop}(hd:Nat.blt d 1024=true)(ht:tyOf P t'=.map a b)(k:WpO P is orc all l ((s.newS (.map [])).put d (.mp s.st.length)) Q):
  WpO P is orc all (⟨some d,.makeMap t' none,t,p,e,none⟩::l) s Q:=by
 refine o_op (R:=fun u s1=>u=.mp s.st.length∧s1=s.newS (.map [])) hd ?_ fun u s1 h=>by obtain⟨rfl,rfl⟩:=h;exact k
 intro Pr φ S tm H hs
 obtain⟨H1,a1,a2,a3,a4⟩:=zAp R.no hs.nok (.map [] 0) (fun n H=>.ok (.map n) H)
 have hA:Alloc H H1 (.map [] 0):=⟨a2,a3,a4⟩
 obtain⟨h3,g2⟩:=hs.allocS (x:=.map []) trivial hA fun ψ _ hψ=>⟨H.n,[],0,hψ,by rw[a4 _ hs.nok,if_pos rfl],.nil⟩
 refine⟨.map H.n,_,_,H1,_,S,⟨0,fun n _=>?_⟩,h3,BMap.le_with _ hs.none_st,S.le_refl,g2,.mp _ _ (BMap.with_self _ _ _),NewOk.none rfl,rfl,rfl⟩
 show Ty.rec (motive:=fun _=>R) (fun _=>.no) (fun _ _=>.no) (fun _=>.no) (fun _ _=>zCS (zd tm none) H) .no (fun _=>.no) .no .no .no .no (tyOf P t')=_
 rw[ht]
 exact a1
end Vam
namespace Vam
open Go
noncomputable def zCD:List (Nat×U)→Nat→U→U
 |[],_,d=>d
 |(i,u)::l,j,d=>cond (Nat.beq j i) u (zCD l j d)
noncomputable def St.ov(s:St)(l:List (Nat×U)):St:=⟨fun j=>zCD l j (s.fr j),[],s.st⟩
def Holds(s:St)(l:List (Nat×U)):Prop:=s.al=[]∧∀p∈l,s.fr p.1=p.2
theorem Holds.eq{s:St}{l:List (Nat×U)}(h:Holds s l):s=s.ov l:=by
 obtain⟨fr,al,st⟩:=s
 obtain⟨rfl,h⟩:=h
 show St.mk fr [] st=⟨fun j=>zCD l j (fr j),[],st⟩
 congr 1
 funext j
 induction l with
 |nil=>rfl
 |cons p l ih=>
  obtain⟨i,u⟩:=p
  show fr j=cond (Nat.beq j i) u (zCD l j (fr j))
  by_cases e:j=i
  ·subst e
   rw[Nat.beq_refl]
   exact h (j,u) List.mem_cons_self
  ·rw[beq_ne e]
   exact ih fun p hp=>h p (List.mem_cons_of_mem _ hp)
theorem Holds.nil{s:St}(h:s.al=[]):Holds s []:=⟨h,fun _ h=>by cases h⟩
theorem Holds.cons{s:St}{l:List (Nat×U)}{i:Nat}{u:U}(h:s.fr i=u)(k:Holds s l):Holds s ((i,u)::l):=
 ⟨k.1,fun p hp=>by
  rcases List.mem_cons.1 hp with rfl|hp
  ·exact h
  ·exact k.2 p hp⟩
theorem zT(l:List SB)(x:SB):(l++[x])[l.length]? =some x:=by simp
theorem wz(l:List SB)(x y:SB):((l++[x]).set l.length y)[l.length]? =some y:=by simp
theorem zEf(k:Nat)(kd:Kd)(hk:kd≠.own)(z:Nat)(l:List Int):Dat (k+2) (.lst kd z (l.map fun n=>.int .i64 n)):=by
 refine .lst _ _ _ _ hk fun c hc=>?_
 obtain⟨e,h1,h2⟩:=List.mem_flatMap.1 hc
 obtain⟨n,_,rfl⟩:=List.mem_map.1 h1
 have h2:c∈[U.int .i64 n]:=h2
 simp only[List.mem_cons,List.not_mem_nil,or_false]at h2
 subst h2;exact .int _ _ _
variable {Pr:Prt}{φ:BMap}{S:SMap}{s:St}{tm:TT}{H:CH}{P:Program}{is:FuncId→Bool}{orc:Known}
theorem zAP{all l:List Oper}{d:Nat}{x:Operand}{t:TypeId}{p:String}{a:Array Edge}{Q:St→Prop}(z:Nat)(hd:Nat.blt d 1024=true)(hx:∀tm,zG tm x=.nils)
  (k:WpO P is orc all l (s.put d (.lst .own z [])) Q):WpO P is orc all (⟨some d,.assign x,t,p,a,none⟩::l) s Q:=by
 intro Pr φ S tm H hs
 have h2:VU φ S (zG tm x) (.lst .own z []):=by rw[hx];exact .nils _ _
 obtain⟨s2,tm2,H2,φ2,S2,⟨n2,k1⟩,k2⟩:=k Pr φ S _ H (hs.put (yu hd) h2 (fun b hb=>by rw[hx]at hb;cases hb))
 exact⟨s2,tm2,H2,φ2,S2,⟨n2,fun n hn=>k1 n hn⟩,k2⟩
end Vam
namespace Vam
open Go
variable {s:St}{P:Program}{is:FuncId→Bool}{orc:Known}
end Vam
