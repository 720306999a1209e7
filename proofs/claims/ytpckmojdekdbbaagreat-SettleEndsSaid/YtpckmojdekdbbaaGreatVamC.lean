import Derived.Test.YtpckmojdekdbbaaGreatVamB
import Derived.ChangeKeysEq
import Derived.Laws.StructEq
import Derived.IntWalk
set_option linter.unusedVariables false
set_option linter.unusedSimpArgs false
namespace Vam
open Go
variable {P:Program}{φ:Phi}{H H':CH}{w:World}{v:V}
theorem zHm{α:Type}(a b:α):cond true a b=a:=rfl
theorem zHD{α:Type}(a b:α):cond false a b=b:=rfl
theorem wrapP_eq(m:Nat):wrapP m=IntKind.i64.wrap (Int.ofNat m):=by
 unfold wrapP
 generalize hc:Nat.ble m 9223372036854775807=c
 cases c with
 |false=>exact zHD _ _
 |true=>
  have h1:m≤9223372036854775807:=Nat.le_of_ble_eq_true hc
  have h2:(Int.ofNat m)=(m:Int):=rfl
  have h3:IntKind.i64.wrap (m:Int)=(m:Int):=IntWalk.i64_in _ (by omega)
  rw[h2,h3];exact zHm _ _
theorem wrapN_eq(m:Nat):wrapN m=IntKind.i64.wrap (Int.negSucc m):=by
 unfold wrapN
 generalize hc:Nat.ble m 9223372036854775807=c
 cases c with
 |false=>exact zHD _ _
 |true=>
  have h1:m≤9223372036854775807:=Nat.le_of_ble_eq_true hc
  have h2:(Int.negSucc m)= -((m:Int)+1):=rfl
  have h3:IntKind.i64.wrap (-((m:Int)+1))= -((m:Int)+1):=IntWalk.i64_in _ (by omega)
  rw[h2,h3];exact zHm _ _
theorem zDO(k:IntKind)(n:Int):wR k n=k.wrap n:=by
 cases k<;>try rfl
 cases n with
 |ofNat m=>exact wrapP_eq m
 |negSucc m=>exact wrapN_eq m
theorem ble_eq(m n:Nat):Nat.ble m n=decide (m≤n):=by
 cases h:Nat.ble m n with
 |true=>simp[Nat.le_of_ble_eq_true h]
 |false=>
  have: ¬ m≤n:=fun hle=>by rw[Nat.ble_eq_true_of_le hle]at h;cases h
  simp[this]
theorem zBn(m n:Nat):Nat.beq m n=decide (m=n):=by
 cases h:Nat.beq m n with
 |true=>simp[Nat.eq_of_beq_eq_true h]
 |false=>simp[Nat.ne_of_beq_eq_false h]
theorem zCj(a b:Int):ile a b=decide (a≤b):=by
 cases a with
 |ofNat m=>cases b with
  |ofNat n=>show Nat.ble m n=_;rw[ble_eq];congr 1;simp
  |negSucc n=>show false=_;symm;rw[decide_eq_false_iff_not];simp only[Int.negSucc_eq,Int.ofNat_eq_natCast];omega
 |negSucc m=>cases b with
  |ofNat n=>show true=_;symm;rw[decide_eq_true_iff];simp only[Int.negSucc_eq,Int.ofNat_eq_natCast];omega
  |negSucc n=>show Nat.ble n m=_;rw[ble_eq];congr 1;simp only[Int.negSucc_eq,eq_iff_iff];omega
theorem zAT(a b:Int):ieq a b=(a==b):=by
 have key:ieq a b=decide (a=b):=by
  cases a with
  |ofNat m=>cases b with
   |ofNat n=>show Nat.beq m n=_;rw[zBn];congr 1;simp only[Int.ofNat_eq_natCast,eq_iff_iff];omega
   |negSucc n=>show false=_;symm;rw[decide_eq_false_iff_not];simp only[Int.negSucc_eq,Int.ofNat_eq_natCast];omega
  |negSucc m=>cases b with
   |ofNat n=>show false=_;symm;rw[decide_eq_false_iff_not];simp only[Int.negSucc_eq,Int.ofNat_eq_natCast];omega
   |negSucc n=>show Nat.beq m n=_;rw[zBn];congr 1;simp only[Int.negSucc_eq,eq_iff_iff];omega
 rw[key];rfl
theorem wI{a b:IntKind}(h:kEq a b=true):a=b:=by cases a<;>cases b<;>first|rfl|cases h
theorem zEU(a b:List Nat):zDg a b=(a==b):=by
 induction a generalizing b with
 |nil=>cases b<;>rfl
 |cons x a ih=>
  cases b with
  |nil=>rfl
  |cons y b=>
   show cond (Nat.beq x y) (zDg a b) false=_
   rw[ih,zBn]
   by_cases h:x=y
   ·subst h;simp[cond]
   ·simp[h,cond]
theorem zEi{a b:ByteArray}:(bytesOf a==bytesOf b)=(a.toList==b.toList):=by
 rw[ByteArray.toList_eq,ByteArray.toList_eq]
 unfold bytesOf
 generalize a.data.toList=x
 generalize b.data.toList=y
 induction x generalizing y with
 |nil=>cases y<;>rfl
 |cons u x ih=>
  cases y with
  |nil=>rfl
  |cons v y=>
   have e1:(u.toNat==v.toNat)=(u==v):=by
    by_cases h:u=v
    ·subst h;simp
    ·have: ¬ u.toNat=v.toNat:=fun e=>h (UInt8.toNat_inj.1 e)
     rw[beq_eq_false_iff_ne.2 h,beq_eq_false_iff_ne.2 this]
   simp only[List.map_cons,List.cons_beq_cons,e1,ih]
noncomputable def eqN(P:Program)(d:Nat):TypeId→V→V→Option Bool:=
 Nat.rec (motive:=fun _=>TypeId→V→V→Option Bool) (fun _ _ _=>none) (fun _ ih=>eqStep P ih) d
theorem eqFields_nil(ih:TypeId→V→V→Option Bool)(xs ys:V):eqFields P ih xs ys []=some true:=rfl
theorem eqFields_cons (ih : TypeId → V → V → Option Bool) (xs ys : V) (f : Field) (fs : List Field) : eqFields P ih xs ys (f :: fs) = (match f.name == "_" with
  |true=>eqFields P ih xs ys fs
  |false=>opt none (fun x=>opt none (fun y=>opt none (fun b=>cond b (eqFields P ih xs ys fs) (some false)) (ih f.type x y)) (zBm P f.type ys f.offset)) (zBm P f.type xs f.offset)):=rfl
theorem eqElems_zero(ih:TypeId→V→V→Option Bool)(e:TypeId)(xs ys:V)(i:Nat):eqElems P ih e xs ys 0 i=some true:=rfl
theorem eqElems_succ(ih:TypeId→V→V→Option Bool)(e:TypeId)(xs ys:V)(n i:Nat):eqElems P ih e xs ys (n+1) i=
  opt none (fun x=>opt none (fun y=>opt none (fun b=>cond b (eqElems P ih e xs ys n (i+1)) (some false)) (ih e x y)) (zBm P e ys (i*P.cellsOf e))) (zBm P e xs (i*P.cellsOf e)):=rfl
theorem zDT{a b r:Bool}(h:nilEq a b=some r):(a=true∨b=true)∧r=(a&&b):=by
 cases a<;>cases b<;>first|(cases h;exact⟨by simp,rfl⟩)|cases h
theorem isNils_ok{v:V}{α:Type}{f:Bool→Option α}{r:α}(h:isNils none f v=some r):(∃b o l c s,v=.slice b o l c s∧f false=some r)∨(v=.nils∧f true=some r):=by
 rcases wC (no:=none) h (by simp)with ⟨b,o,l,c,s,h1,h2⟩|⟨h1,h2⟩
 ·exact .inl ⟨b,o,l,c,s,h1,h2⟩
 ·exact .inr ⟨h1,h2⟩
theorem isNilm_ok{v:V}{α:Type}{f:Bool→Option α}{r:α}(h:isNilm none f v=some r):(∃b,v=.map b∧f false=some r)∨(v=.nilm∧f true=some r):=by
 rcases onMap_ok (no:=none) h (by simp)with ⟨b,h1,h2⟩|⟨h1,h2⟩
 ·exact .inl ⟨b,h1,h2⟩
 ·exact .inr ⟨h1,h2⟩
theorem isNilp_ok{v:V}{α:Type}{f:Bool→Option α}{r:α}(h:isNilp none f v=some r):(∃b o,v=.ptr b o∧f false=some r)∨(v=.nilp∧f true=some r):=by
 cases v<;>first|exact .inl ⟨_,_,rfl,h⟩|exact .inr ⟨rfl,h⟩|cases h
theorem isNilf_ok{v:V}{α:Type}{f:Bool→Option α}{r:α}(h:isNilf none f v=some r):((∃g a b,v=.func g a b)∨(∃l,v=.yield l))∧f false=some r∨(v=.nilf∧f true=some r):=by
 cases v<;>first|exact .inl ⟨.inl ⟨_,_,_,rfl⟩,h⟩|exact .inl ⟨.inr ⟨_,rfl⟩,h⟩|exact .inr ⟨rfl,h⟩|cases h
set_option maxHeartbeats 1000000 in
theorem eqN_rel:∀(d:Nat) {t:TypeId} {x y:V} {r:Bool} {xv yv:Value},eqN P d t x y=some r→VR φ x xv→VR φ y yv→
  ∀(D:Nat),d≤D→∀w:World,(Op.equalIn D t xv yv).run P w=.ok r w:=by
 intro d
 induction d with
 |zero=>intro t x y r xv yv h;cases h
 |succ d ih=>
  intro t x y r xv yv h hx hy D hD w
  obtain⟨D,rfl⟩:∃D',D=D'+1:=⟨D - 1,by omega⟩
  change eqStep P (eqN P d) t x y=some r at h
  unfold eqStep at h
  cases ht:tyOf P t with
  |struct fs=>
   rw[ht]at h
   obtain⟨hp,h1⟩:=zAo h (by simp)
   obtain⟨xs,rfl,h2⟩:=wS (no:=none) h1 (by simp)
   obtain⟨ys,rfl,h3⟩:=wS (no:=none) h2 (by simp)
   obtain⟨F,g1,g2,g3⟩:=zCL ht
   cases hx with
   |agg _ cs hl=>
    cases hy with
    |agg _ ds hm=>
     have hF:P.fieldsOf t=F:=by simp[Program.fieldsOf,g1]
     rw[run_equalIn_struct w D t cs ds (by rw[hF];exact g1) hp,hF,g2]
     clear ht h h1 h2 g1 g2 g3 hF hp
     induction fs generalizing r with
     |nil=>rw[eqFields_nil]at h3;cases h3;simp[Op.eqFields]
     |cons f fs ihf=>
      rw[eqFields_cons]at h3
      cases hn : f.name == "_" with
      |true=>
       rw[hn]at h3
       have : f.name = "_" := by simpa using hn
       simp only[Op.eqFields,this,ne_eq,not_true_eq_false,if_false]
       exact ihf h3
      |false=>
       rw[hn]at h3
       have hne : f.name ≠ "_" := by simpa using hn
       obtain⟨a,k1,h4⟩:=zP (no:=none) h3 (by simp)
       obtain⟨b,k2,h5⟩:=zP (no:=none) h4 (by simp)
       obtain⟨c,k3,h6⟩:=zP (no:=none) h5 (by simp)
       obtain⟨av,p1,p2⟩:=zAs hl k1 w
       obtain⟨bv,q1,q2⟩:=zAs hm k2 w
       have e:=ih k3 p2 q2 D (by omega) w
       simp only[Array.toArray_toList]at p1 q1
       simp only[Op.eqFields,hne,ne_eq,not_false_eq_true,if_true,Sem.run_bind,p1,q1,e,Result.andThen_ok]
       cases c with
       |false=>cases h6;simp
       |true=>simpa using ihf h6
  |array n e=>
   rw[ht]at h
   obtain⟨xs,rfl,h2⟩:=wS (no:=none) h (by simp)
   obtain⟨ys,rfl,h3⟩:=wS (no:=none) h2 (by simp)
   obtain⟨g1,g2⟩:=zAF ht
   obtain⟨i,hi⟩:=(yV g2).1
   cases hx with
   |agg _ cs hl=>
    cases hy with
    |agg _ ds hm=>
     rw[run_equalIn_array w D cs ds g1 hi,List.range_eq_range']
     clear ht h h2 g1 g2 hi
     generalize 0=j at h3
     induction n generalizing r j with
     |zero=>rw[eqElems_zero]at h3;cases h3;simp[Op.eqItems]
     |succ n ihn=>
      rw[eqElems_succ]at h3
      obtain⟨a,k1,h4⟩:=zP (no:=none) h3 (by simp)
      obtain⟨b,k2,h5⟩:=zP (no:=none) h4 (by simp)
      obtain⟨c,k3,h6⟩:=zP (no:=none) h5 (by simp)
      obtain⟨av,p1,p2⟩:=zAs hl k1 w
      obtain⟨bv,q1,q2⟩:=zAs hm k2 w
      have e:=ih k3 p2 q2 D (by omega) w
      simp only[Array.toArray_toList]at p1 q1
      simp only[List.range'_succ,Op.eqItems,Sem.run_bind,p1,q1,e,Result.andThen_ok]
      cases c with
      |false=>cases h6;simp
      |true=>simpa using ihn (j+1) h6
  |slice e=>
   rw[ht]at h
   have g1:=(zq ht).1
   rcases isNils_ok h with ⟨b,o,l,c,s,rfl,h1⟩|⟨rfl,h1⟩<;>rcases isNils_ok h1 with ⟨b',o',l',c',s',rfl,h2⟩|⟨rfl,h2⟩<;>
    obtain⟨h3,rfl⟩:=zDT h2<;>cases hx<;>cases hy<;>simp at h3<;>simp[Op.equalIn,run_underlying g1]
  |map k e=>
   rw[ht]at h
   have g1:=(zDP ht).1
   rcases isNilm_ok h with ⟨b,rfl,h1⟩|⟨rfl,h1⟩<;>rcases isNilm_ok h1 with ⟨b',rfl,h2⟩|⟨rfl,h2⟩<;>
    obtain⟨h3,rfl⟩:=zDT h2<;>cases hx<;>cases hy<;>simp at h3<;>simp[Op.equalIn,run_underlying g1]
  |string=>
   rw[ht]at h
   obtain⟨a,rfl,h1⟩:=zAm (no:=none) h (by simp)
   obtain⟨b,rfl,h2⟩:=zAm (no:=none) h1 (by simp)
   cases h2
   cases hx;cases hy
   rw[run_equalIn_string w D t _ _ (zAB ht),zEU,zEi]
  |int k=>
   rw[ht]at h
   obtain⟨ka,a,rfl,h1⟩:=wh (no:=none) h (by simp)
   obtain⟨kb,b,rfl,h2⟩:=wh (no:=none) h1 (by simp)
   obtain⟨h3,h4⟩:=zH h2 (by simp)
   obtain rfl:=wI h3
   cases h4
   cases hx;cases hy
   rw[run_equalIn_int w D t ka k a b (zFl ht),zAT]
  |bool=>
   rw[ht]at h
   obtain⟨a,rfl,h1⟩:=zBU (no:=none) h (by simp)
   obtain⟨b,rfl,h2⟩:=zBU (no:=none) h1 (by simp)
   cases h2
   cases hx;cases hy
   rw[run_equalIn_bool' w D t a b (tyOf_bool ht)]
   cases a<;>cases b<;>rfl
  |pointer=>
   rw[ht]at h
   obtain⟨e,g1⟩:=tyOf_pointer ht
   rcases isNilp_ok h with ⟨b,o,rfl,h1⟩|⟨rfl,h1⟩<;>rcases isNilp_ok h1 with ⟨b',o',rfl,h2⟩|⟨rfl,h2⟩<;>
    obtain⟨h3,rfl⟩:=zDT h2<;>cases hx<;>cases hy<;>simp at h3<;>simp[Op.equalIn,run_underlying g1]
  |func=>
   rw[ht]at h
   obtain⟨e1,e2,e3,g1⟩:=tyOf_func ht
   rcases isNilf_ok h with ⟨⟨g,a,b,rfl⟩|⟨l,rfl⟩,h1⟩|⟨rfl,h1⟩<;>rcases isNilf_ok h1 with ⟨⟨g',a',b',rfl⟩|⟨l',rfl⟩,h2⟩|⟨rfl,h2⟩<;>
    obtain⟨h3,rfl⟩:=zDT h2<;>cases hx<;>cases hy<;>simp at h3<;>simp[Op.equalIn,run_underlying g1]
  |other=>rw[ht]at h;cases h
theorem eqT_rel{t:TypeId}{x y:V}{r:Bool}{xv yv:Value}(h:eqT P t x y=some r)(hx:VR φ x xv)(hy:VR φ y yv)(w:World):
  (Op.equal t xv yv).run P w=.ok r w:=eqN_rel 10 h hx hy 10000 (by omega) w
end Vam
namespace Vam
open Go
variable {P:Program}{φ:Phi}{H H':CH}{w:World}{v:V}
theorem intOp_rel{op:BinOp}{k k':IntKind}{a b:Int}{t:TypeId}(h:intOp op k a k' b=some v)(w:World):
  ∃u,(binOp op t (.int k a) (.int k' b)).run P w=.ok u w∧∀φ:Phi,VR φ v u:=by
 cases op with
 |shl=>
  change iShl k a b=some v at h
  cases b with
  |negSucc m=>cases h
  |ofNat m=>
   cases h
   refine⟨_,?_,fun _=>.int _ _⟩
   have: ¬ ((m:Int)<0):=by omega
   simp[binOp,Op.shift,this]
 |shr=>
  change iShr k a b=some v at h
  cases b with
  |negSucc m=>cases h
  |ofNat m=>
   cases h
   refine⟨_,?_,fun _=>.int _ _⟩
   have: ¬ ((m:Int)<0):=by omega
   simp[binOp,Op.shift,this]
 |quo=>
  obtain⟨h1,h2⟩:=zH (show cond (kEq k k') (iQuo k a b) none=some v from h) (by simp)
  obtain rfl:=wI h1
  obtain⟨h3,h4⟩:=zAo h2 (by simp)
  cases h4
  rw[zAT]at h3
  have hb:b≠0:=by simpa using h3
  exact⟨_,by simp[binOp,Op.intDiv,hb,zDO],fun _=>.int _ _⟩
 |rem=>
  obtain⟨h1,h2⟩:=zH (show cond (kEq k k') (iRem k a b) none=some v from h) (by simp)
  obtain rfl:=wI h1
  obtain⟨h3,h4⟩:=zAo h2 (by simp)
  cases h4
  rw[zAT]at h3
  have hb:b≠0:=by simpa using h3
  exact⟨_,by simp[binOp,Op.intDiv,hb],fun _=>.int _ _⟩
 |add=>
  obtain⟨h1,h2⟩:=zH (show cond (kEq k k') (jAdd k a b) none=some v from h) (by simp)
  obtain rfl:=wI h1
  cases h2
  exact⟨.int k (k.wrap (a+b)),by simp[binOp,Op.intArith],fun _=>by rw[zDO];exact .int _ _⟩
 |sub=>
  obtain⟨h1,h2⟩:=zH (show cond (kEq k k') (jSub k a b) none=some v from h) (by simp)
  obtain rfl:=wI h1
  cases h2
  exact⟨.int k (k.wrap (a - b)),by simp[binOp,Op.intArith],fun _=>by rw[zDO];exact .int _ _⟩
 |mul=>
  obtain⟨h1,h2⟩:=zH (show cond (kEq k k') (jMul k a b) none=some v from h) (by simp)
  obtain rfl:=wI h1
  cases h2
  exact⟨.int k (k.wrap (a*b)),by simp[binOp,Op.intArith],fun _=>by rw[zDO];exact .int _ _⟩
 |and=>
  obtain⟨h1,h2⟩:=zH (show cond (kEq k k') (jAnd k a b) none=some v from h) (by simp)
  obtain rfl:=wI h1
  cases h2
  exact⟨_,by simp[binOp,Op.intBits],fun _=>.int _ _⟩
 |or=>
  obtain⟨h1,h2⟩:=zH (show cond (kEq k k') (jOr k a b) none=some v from h) (by simp)
  obtain rfl:=wI h1
  cases h2
  exact⟨_,by simp[binOp,Op.intBits],fun _=>.int _ _⟩
 |xor=>
  obtain⟨h1,h2⟩:=zH (show cond (kEq k k') (jXor k a b) none=some v from h) (by simp)
  obtain rfl:=wI h1
  cases h2
  exact⟨_,by simp[binOp,Op.intBits],fun _=>.int _ _⟩
 |andNot=>
  obtain⟨h1,h2⟩:=zH (show cond (kEq k k') (jAndNot k a b) none=some v from h) (by simp)
  obtain rfl:=wI h1
  cases h2
  exact⟨_,by simp[binOp,Op.intBits],fun _=>.int _ _⟩
 |eql=>
  obtain⟨h1,h2⟩:=zH (show cond (kEq k k') (jEql k a b) none=some v from h) (by simp)
  obtain rfl:=wI h1
  cases h2
  exact⟨.bool (a==b),by simp[binOp,Op.intCmp],fun _=>by rw[zAT];exact .bool _⟩
 |neq=>
  obtain⟨h1,h2⟩:=zH (show cond (kEq k k') (jNeq k a b) none=some v from h) (by simp)
  obtain rfl:=wI h1
  cases h2
  exact⟨.bool (a != b),by simp[binOp,Op.intCmp],fun _=>by rw[zAT];exact .bool _⟩
 |lss=>
  obtain⟨h1,h2⟩:=zH (show cond (kEq k k') (jLss k a b) none=some v from h) (by simp)
  obtain rfl:=wI h1
  cases h2
  refine⟨.bool (decide (a<b)),by simp[binOp,Op.intCmp],fun _=>?_⟩
  have:(!(ile b a))=decide (a<b):=by rw[zCj];by_cases h:b≤a<;>simp[h]<;>omega
  rw[this];exact .bool _
 |leq=>
  obtain⟨h1,h2⟩:=zH (show cond (kEq k k') (jLeq k a b) none=some v from h) (by simp)
  obtain rfl:=wI h1
  cases h2
  exact⟨.bool (decide (a≤b)),by simp[binOp,Op.intCmp],fun _=>by rw[zCj];exact .bool _⟩
 |gtr=>
  obtain⟨h1,h2⟩:=zH (show cond (kEq k k') (jGtr k a b) none=some v from h) (by simp)
  obtain rfl:=wI h1
  cases h2
  refine⟨.bool (decide (a > b)),by simp[binOp,Op.intCmp],fun _=>?_⟩
  have:(!(ile a b))=decide (a > b):=by rw[zCj];by_cases h:a≤b<;>simp[h]<;>omega
  rw[this];exact .bool _
 |geq=>
  obtain⟨h1,h2⟩:=zH (show cond (kEq k k') (jGeq k a b) none=some v from h) (by simp)
  obtain rfl:=wI h1
  cases h2
  refine⟨.bool (decide (a ≥ b)),by simp[binOp,Op.intCmp],fun _=>?_⟩
  rw[zCj];exact .bool _
theorem strOp_rel{op:BinOp}{a b:ByteArray}{t:TypeId}(h:strOp op (bytesOf a) (bytesOf b)=some v)(w:World):
  ∃u,(binOp op t (.string a) (.string b)).run P w=.ok u w∧∀φ:Phi,VR φ v u:=by
 cases op with
 |add=>
  obtain⟨h1,h2⟩:=zH (show cond _ (some (V.str (bytesOf a++bytesOf b))) none=some v from h) (by simp)
  cases h2
  have h3:(bytesOf a).length+(bytesOf b).length≤1000000:=Nat.le_of_ble_eq_true h1
  rw[zEh,zEh]at h3
  have h4: ¬ (((a.size+b.size:Nat):Int) > IntKind.i64.max):=by
   have:IntKind.i64.max=9223372036854775807:=by decide
   rw[this];omega
  refine⟨.string (a++b),?_,fun _=>?_⟩
  ·simp only[binOp,Op.stringOp,if_neg h4];rfl
  ·have:bytesOf a++bytesOf b=bytesOf (a++b):=by simp[bytesOf,ByteArray.data_append]
   rw[this];exact .str _
 |eql=>
  cases h
  exact⟨.bool (a.toList==b.toList),by simp[binOp,Op.stringOp],fun _=>by rw[zEU,zEi];exact .bool _⟩
 |neq=>
  cases h
  exact⟨.bool (!(a.toList==b.toList)),by simp[binOp,Op.stringOp],fun _=>by rw[zEU,zEi];exact .bool _⟩
 |_=>cases h
theorem wk{op:BinOp}{t:TypeId}{x y:V}{xv yv:Value}(h:eqOp P t op x y=some v)(hx:VR φ x xv)(hy:VR φ y yv)(w:World)
  (hn:∀r,(Op.equal t xv yv).run P w=.ok r w→(binOp .eql t xv yv).run P w=.ok (.bool r) w∧(binOp .neq t xv yv).run P w=.ok (.bool (!r)) w):
  ∃u,(binOp op t xv yv).run P w=.ok u w∧∀φ:Phi,VR φ v u:=by
 cases op with
 |eql=>
  obtain⟨b,h1,h2⟩:=zP (no:=none) (show opt none (fun b=>some (V.bool b)) (eqT P t x y)=some v from h) (by simp)
  cases h2
  exact⟨_,(hn b (eqT_rel h1 hx hy w)).1,fun _=>.bool _⟩
 |neq=>
  obtain⟨b,h1,h2⟩:=zP (no:=none) (show opt none (fun b=>some (V.bool (not b))) (eqT P t x y)=some v from h) (by simp)
  cases h2
  exact⟨_,(hn b (eqT_rel h1 hx hy w)).2,fun _=>.bool _⟩
 |_=>cases h
theorem eqGuard_ok(op:BinOp)(t:TypeId)(xo yo:Operand)(xv yv:Value)(w:World)(h1:xv≠.nilIface)(h2:∀cs,xv=.agg cs→P.eqGuardType P.depth t=false):
  (eqGuard op t xo yo xv yv).run P w=.ok () w:=by
 cases xv with
 |nilIface=>exact absurd rfl h1
 |agg cs=>
  cases yv with
  |agg ds=>exact run_eqGuard_agg w op t xo yo cs ds (h2 cs rfl)
  |_=>cases op<;>simp[eqGuard]
 |_=>cases op<;>simp[eqGuard]
theorem sim_binOp(h:Rel P φ H w){op:BinOp}{t:TypeId}{xo yo:Operand}{x y:V}{xv yv:Value}(hx:VR φ x xv)(hy:VR φ y yv)
  (hr:zt H (binV P t op x y)=.ok v H'):Sim P φ H w (do pure (.value (←(do eqGuard op t xo yo xv yv;binOp op t xv yv)))) v H':=by
 obtain⟨h1,rfl⟩:=yZ hr
 have key:(∃u,(binOp op t xv yv).run P w=.ok u w∧∀φ:Phi,VR φ v u)→(xv≠.nilIface)→(∀cs,xv=.agg cs→P.eqGuardType P.depth t=false)→
   Sim P φ H' w (do pure (.value (←(do eqGuard op t xo yo xv yv;binOp op t xv yv)))) v H':=by
  rintro⟨u,k1,k2⟩ k3 k4
  exact Sim.pure h (by simp[eqGuard_ok op t xo yo xv yv w k3 k4,k1]) (k2 φ)
 cases hx with
 |int k a=>
  obtain⟨k',b,rfl,h2⟩:=wh (no:=none) (show zDB none (intOp op k a) y=some v from h1) (by simp)
  cases hy
  exact key (intOp_rel h2 w) (by intro e;cases e) (by intro _ e;cases e)
 |str s=>
  obtain⟨b,rfl,h2⟩:=zAm (no:=none) (show zGd none (strOp op (bytesOf s)) y=some v from h1) (by simp)
  cases hy
  exact key (strOp_rel h2 w) (by intro e;cases e) (by intro _ e;cases e)
 |agg l cs hl=>
  obtain⟨h2,h3⟩:=zAo (show cond (P.eqGuardType P.depth t) none (eqOp P t op (.agg l) y)=some v from h1) (by simp)
  exact key (wk h3 (.agg l cs hl) hy w (fun r e=>by simp[binOp,e])) (by intro e;cases e) (fun _ _=>h2)
 |bool b=>exact key (wk h1 (.bool b) hy w (fun r e=>by simp[binOp,e])) (by intro e;cases e) (by intro _ e;cases e)
 |ptr b off k hk=>exact key (wk h1 (.ptr b off k hk) hy w (fun r e=>by simp[binOp,e])) (by intro e;cases e) (by intro _ e;cases e)
 |glob n=>exact key (wk h1 (.glob n) hy w (fun r e=>by simp[binOp,e])) (by intro e;cases e) (by intro _ e;cases e)
 |nilp=>exact key (wk h1 .nilp hy w (fun r e=>by simp[binOp,e])) (by intro e;cases e) (by intro _ e;cases e)
 |slice b off len cc sz cap k hk hc=>exact key (wk h1 (.slice b off len cc sz cap k hk hc) hy w (fun r e=>by simp[binOp,e])) (by intro e;cases e) (by intro _ e;cases e)
 |empty sz a=>exact key (wk h1 (.empty sz a) hy w (fun r e=>by simp[binOp,e])) (by intro e;cases e) (by intro _ e;cases e)
 |loose sz a c=>exact key (wk h1 (.loose sz a c) hy w (fun r e=>by simp[binOp,e])) (by intro e;cases e) (by intro _ e;cases e)
 |nils=>exact key (wk h1 .nils hy w (fun r e=>by simp[binOp,e])) (by intro e;cases e) (by intro _ e;cases e)
 |map b k hk=>exact key (wk h1 (.map b k hk) hy w (fun r e=>by simp[binOp,e])) (by intro e;cases e) (by intro _ e;cases e)
 |nilm=>exact key (wk h1 .nilm hy w (fun r e=>by simp[binOp,e])) (by intro e;cases e) (by intro _ e;cases e)
 |func f a b A B ha hb=>exact key (wk h1 (.func f a b A B ha hb) hy w (fun r e=>by simp[binOp,e])) (by intro e;cases e) (by intro _ e;cases e)
 |nilf=>exact key (wk h1 .nilf hy w (fun r e=>by simp[binOp,e])) (by intro e;cases e) (by intro _ e;cases e)
 |yield b k hk=>cases h1
 |tup l cs hl=>cases h1
theorem sim_unOp(h:Rel P φ H w){op:UnOp}{x:V}{xv:Value}(hx:VR φ x xv)(hr:zt H (unV op x)=.ok v H'):
  Sim P φ H w (do pure (.value (←Op.unary op xv))) v H':=by
 obtain⟨h1,rfl⟩:=yZ hr
 cases op with
 |neg=>
  obtain⟨k,n,rfl,h2⟩:=wh (no:=none) (show zDB none _ x=some v from h1) (by simp)
  cases h2
  cases hx
  refine Sim.pure h (x:=.int k (k.wrap (0 - n))) (by simp[Op.unary,Op.intArith]) ?_
  rw[zDO,show Int.neg n=0 - n by show -n=0 - n;omega];exact .int _ _
 |not=>
  obtain⟨b,rfl,h2⟩:=zBU (no:=none) (show wB none _ x=some v from h1) (by simp)
  cases h2
  cases hx
  exact Sim.pure h (by simp[Op.unary]) (.bool _)
 |_=>cases h1
theorem sim_convert(h:Rel P φ H w){s d:TypeId}{x:V}{xv:Value}(hx:VR φ x xv)(hr:zCU P s d x H=.ok v H'):
  Sim P φ H w (do pure (.value (←convert s d xv))) v H':=by
 obtain⟨h1,h2⟩:=zH hr R.ok_ne
 obtain⟨ds,g1⟩:=(yV h1).2
 cases ht:tyOf P d with
 |int k=>
  rw[ht]at h2
  obtain⟨k',n,rfl,h3⟩:=wh h2 R.ok_ne
  cases h3
  cases hx
  refine Sim.pure h (x:=.int k (k.wrap n)) ?_ (by rw[zDO];exact .int _ _)
  simp[convert,run_underlying g1,run_underlying (zFl ht),Conv.intToInt]
 |string=>
  rw[ht]at h2
  obtain⟨b,rfl,h3⟩:=zAm h2 R.ok_ne
  cases h3
  cases hx with
  |str s=>
   refine Sim.pure h (x:=.string s) ?_ (.str s)
   cases ds<;>simp[convert,run_underlying g1,run_underlying (zAB ht)]
 |_=>rw[ht]at h2;cases h2
theorem sim_nilCheck(h:Rel P φ H w){o:Oper}{ρ:Operand→Value}{x:Operand}{xx:V}(ho:o.op=.nilCheck x)(hx:VR φ xx (ρ x))(hr:zCA xx H=.ok v H'):
  Sim P φ H w (execOp ρ o) v H':=by
 simp only[execOp,ho]
 generalize ρ x=xv at hx
 cases hx with
 |ptr b off k hk=>cases hr;exact⟨φ,w,_,.inl (by simp),h,.refl _ _ _,.ptr b off k hk⟩
 |glob n=>cases hr;exact⟨φ,w,_,.inl (by simp),h,.refl _ _ _,.glob n⟩
 |func f a b A B ha hb=>cases hr;exact⟨φ,w,_,.inl (by simp),h,.refl _ _ _,.func f a b A B ha hb⟩
 |_=>cases hr
theorem sim_makeFunc(h:Rel P φ H w){tm:TT}{a:Act}(htm:TmR φ tm a.tmps){fn:Fn}{xs ys:Array Operand}(h1:xs.toList.all (okO a.tmps.size)=true)(h2:ys.toList.all (okO a.tmps.size)=true)
  (hr:aMakeFunc fn xs ys P ⟨fun _ _ _ _ _ _=>.no,fun _ _ _=>.no⟩ tm H=.ok v H'):
  Sim P φ H w (do pure (.value (←Instr.makeFunc fn (xs.map a.eval) (ys.map a.eval)))) v H':=by
 cases fn with
 |func f=>
  cases hr
  refine Sim.pure h (x:=.func (.func f) (xs.map a.eval) (ys.map a.eval)) (by simp[Instr.makeFunc]) (.func f _ _ _ _ ?_ ?_)
  ·have:=zBW htm h1;simpa using this
  ·have:=zBW htm h2;simpa using this
 |_=>cases hr
inductive OptR(φ:Phi):Option V→Option Value→Prop where
 |none:OptR φ none none
 |some (x:V) (v:Value):VR φ x v→OptR φ (some x) (some v)
theorem zBw{x:V}{xv:Value}{y y' n:Nat}{c:BoundsCode}(h:sliceB y x=some n)(hx:VR φ x xv)(hy:y≤y')(w:World):(Instr.sliceBound xv y' c).run P w=.ok n w∧n≤y:=by
 obtain⟨k,m,rfl,h1⟩:=zBL (no:=none) h (by simp)
 obtain⟨h2,h3⟩:=zH h1 (by simp)
 cases h3
 cases hx
 have h4:=Nat.le_of_ble_eq_true h2
 have h5:n≤y':=Nat.le_trans h4 hy
 refine⟨?_,h4⟩
 simp[Instr.sliceBound,asIntOf,h5]
theorem zAd{isSlice:Bool}{len capc capr m l h:Nat}{lo hi mx:Option V}{lov hiv mxv:Option Value}(hcap:capc≤capr)(hlen:len≤capc)
  (hm:opt (some capc) (sliceB capc) mx=some m) (hb:zCN len m lo hi mx=some (l,h)) (h1:OptR φ lo lov) (h2:OptR φ hi hiv) (h3:OptR φ mx mxv) (w:World):
  (Instr.sliceBounds isSlice len capr lov hiv mxv).run P w=.ok (l,h,if mx.isSome then m else capr) w∧l≤h∧h≤m∧m≤capc:=by
 obtain⟨h',k1,k2⟩:=zP (no:=none) hb (by simp)
 obtain⟨l',k3,k4⟩:=zP (no:=none) k2 (by simp)
 cases k4
 cases h3 with
 |none=>
  cases hm
  cases h2 with
  |none=>
   cases k1
   cases h1 with
   |none=>cases k3;simp[Instr.sliceBounds,hlen]
   |some x u hx=>
    obtain⟨q1,q2⟩:=zBw (P:=P) (c:=.sliceB) k3 hx (Nat.le_refl _) w
    simp[Instr.sliceBounds,q1,q2,hlen]
  |some y z hy=>
   obtain⟨p1,p2⟩:=zBw (P:=P) (c:=if isSlice then .sliceAcap else .sliceAlen) k1 hy hcap w
   cases h1 with
   |none=>cases k3;simp[Instr.sliceBounds,p1,p2]
   |some x u hx=>
    obtain⟨q1,q2⟩:=zBw (P:=P) (c:=.sliceB) k3 hx (Nat.le_refl _) w
    simp[Instr.sliceBounds,p1,p2,q1,q2]
 |some a b ha=>
  obtain⟨r1,r2⟩:=zBw (P:=P) (c:=if isSlice then .slice3Acap else .slice3Alen) hm ha hcap w
  cases h2 with
  |none=>cases k1
  |some y z hy=>
   obtain⟨p1,p2⟩:=zBw (P:=P) (c:=.slice3B) k1 hy (Nat.le_refl _) w
   cases h1 with
   |none=>cases k3;simp[Instr.sliceBounds,r1,p1,p2,r2]
   |some x u hx=>
    obtain⟨q1,q2⟩:=zBw (P:=P) (c:=.slice3C) k3 hx (Nat.le_refl _) w
    simp[Instr.sliceBounds,r1,p1,p2,q1,q2,r2]
theorem zBG(n:Nat):capN (capX n)=n:=by show Nat.succ (2*n) / 2=n;omega
theorem capN_A(n:Nat):capN (capA n)=n:=by show 2*n / 2=n;omega
theorem zFV(n:Nat):capE (capX n)=true:=by show Nat.beq (Nat.succ (2*n) % 2) 1=true;rw[zBn,decide_eq_true_iff];omega
theorem capE_A(n:Nat):capE (capA n)=false:=by show Nat.beq (2*n % 2) 1=false;rw[zBn,decide_eq_false_iff_not];omega
theorem sim_slice(h:Rel P φ H w){t:TypeId}{x:V}{xv:Value}{lo hi mx:Option V}{lov hiv mxv:Option Value}(hx:VR φ x xv)
  (h1:OptR φ lo lov) (h2:OptR φ hi hiv) (h3:OptR φ mx mxv) (hr0:zt H (zBv P t x lo hi mx)=.ok v H'):
  Sim P φ H w (do pure (.value (←Instr.sliceAt t xv lov hiv mxv))) v H':=by
 obtain⟨hr,rfl⟩:=yZ hr0
 clear hr0
 unfold zBv at hr
 cases ht:tyOf P t with
 |array n e=>
  rw[ht]at hr
  obtain⟨g1,g2⟩:=zAF ht
  have hs:=yI (yV g2).1 w
  obtain⟨b,o,rfl,k1⟩:=wg (no:=none) hr (by simp)
  obtain⟨k0,k1⟩:=zAo k1 (by simp)
  obtain⟨m,k2,k3⟩:=zP (no:=none) k1 (by simp)
  obtain⟨⟨l,hh⟩,k4,k5⟩:=zP (no:=none) k3 (by simp)
  obtain⟨q1,q2,q3,q4⟩:=zAd (P:=P) (isSlice:=false) (Nat.le_refl n) (Nat.le_refl n) k2 k4 h1 h2 h3 w
  have hmm:(if mx.isSome then m else n)=m:=by
   cases h3 with
   |none=>cases k2;simp
   |some _ _ _=>simp
  rw[hmm]at q1
  cases hx with
  |glob _=>cases k0
  |ptr _ _ k hk=>
   change cond (Nat.beq m l) _ _=some v at k5
   by_cases hml:m=l
   ·subst hml
    rw[show Nat.beq m m=true by rw[zBn];simp]at k5
    cases k5
    refine Sim.pure h (x:=.slice (some ⟨k.r,k.o+o,none⟩) (hh - m) (m - m)) ?_ (.slice b o _ _ _ _ k hk ⟨by rw[zBG];show hh - m≤0;omega,fun _=>by rw[zBG];omega,fun e=>by rw[zFV]at e;cases e⟩)
    simp[Instr.sliceAt,run_underlying g1,Instr.sureAddr,q1,hs]
   ·rw[show Nat.beq m l=false by rw[zBn];simp[hml]]at k5
    cases k5
    refine Sim.pure h (x:=.slice (some ⟨k.r,k.o+(o+l*P.cellsOf e),none⟩) (hh - l) (m - l)) ?_
     (.slice b _ _ _ _ _ k hk ⟨by rw[show cond true (capX (Nat.sub m l)) _=capX (m - l)from rfl,zBG];show hh - l≤m - l;omega,fun _=>by rw[show cond true (capX (Nat.sub m l)) _=capX (m - l)from rfl,zBG],
      fun e=>by rw[show cond true (capX (Nat.sub m l)) _=capX (m - l)from rfl,zFV]at e;cases e⟩)
    simp[Instr.sliceAt,run_underlying g1,Instr.sureAddr,q1,hs,hml,wE,Nat.add_assoc]
 |slice e=>
  rw[ht]at hr
  obtain⟨g1,g2⟩:=zq ht
  have hs:=yI (yV g2).1 w
  rcases wC (no:=none) hr (by simp)with ⟨b,o,len,cc,sz,rfl,k0⟩|⟨rfl,k0⟩
  ·obtain⟨e1,k1⟩:=zH k0 (by simp)
   obtain rfl:=zl e1
   obtain⟨⟨m,ex⟩,k2,k3⟩:=zP (no:=none) k1 (by simp)
   obtain⟨⟨l,hh⟩,k4,k5⟩:=zP (no:=none) k3 (by simp)
   dsimp only at k4 k5
   cases hx with
   |empty _ a=>
    have hm:opt (some 0) (sliceB 0) mx=some m∧ex=true:=by
     cases mx with
     |none=>cases k2;exact⟨rfl,rfl⟩
     |some z=>
      obtain⟨m',p1,p2⟩:=zP (no:=none) (show opt none (fun m=>some (m,true)) (sliceB 0 z)=some (m,ex)from k2) (by simp)
      cases p2
      exact⟨p1,rfl⟩
    obtain⟨hm,rfl⟩:=hm
    obtain⟨q1,q2,q3,q4⟩:=zAd (P:=P) (isSlice:=true) (Nat.le_refl 0) (Nat.le_refl 0) hm k4 h1 h2 h3 w
    obtain rfl:m=0:=by omega
    obtain rfl:hh=0:=by omega
    obtain rfl:l=0:=by omega
    cases(show some (V.slice .over 0 0 (capX 0) (P.cellsOf e))=some v from k5)
    refine Sim.pure h (x:=.slice (some a) 0 0) ?_ (.empty _ a)
    simp[Instr.sliceAt,Instr.slice,run_underlying g1,q1,hs]
   |loose _ a c0=>
    have hm:opt (some 0) (sliceB 0) mx=some m∧ex=mx.isSome:=by
     cases mx with
     |none=>cases k2;exact⟨rfl,rfl⟩
     |some z=>
      obtain⟨m',p1,p2⟩:=zP (no:=none) (show opt none (fun m=>some (m,true)) (sliceB 0 z)=some (m,ex)from k2) (by simp)
      cases p2
      exact⟨p1,rfl⟩
    obtain⟨hm,hex⟩:=hm
    obtain⟨q1,q2,q3,q4⟩:=zAd (P:=P) (isSlice:=true) (Nat.zero_le c0) (Nat.le_refl 0) hm k4 h1 h2 h3 w
    obtain rfl:m=0:=by omega
    obtain rfl:hh=0:=by omega
    obtain rfl:l=0:=by omega
    cases hmx:mx.isSome with
    |true=>
     rw[hmx]at hex q1
     subst hex
     cases(show some (V.slice .over 0 0 (capX 0) (P.cellsOf e))=some v from k5)
     refine Sim.pure h (x:=.slice (some a) 0 0) ?_ (.empty _ a)
     simp[Instr.sliceAt,Instr.slice,run_underlying g1,q1,hs]
    |false=>
     rw[hmx]at hex q1
     subst hex
     cases(show some (V.slice .over 0 0 (capA 0) (P.cellsOf e))=some v from k5)
     refine Sim.pure h (x:=.slice (some a) 0 c0) ?_ (.loose _ a c0)
     simp[Instr.sliceAt,Instr.slice,run_underlying g1,q1,hs]
     intro _;cases a;simp[Addr.add]
   |slice _ _ _ _ _ cap k hk hc=>
    obtain⟨c1,c2,c3⟩:=hc
    have hcap:capN cc≤cap:=by
     cases hE:capE cc with
     |true=>rw[c2 hE];exact Nat.le_refl _
     |false=>exact(c3 hE).1
    have hm:opt (some (capN cc)) (sliceB (capN cc)) mx=some m∧ex=(if mx.isSome then true else capE cc):=by
     cases mx with
     |none=>cases k2;exact⟨rfl,rfl⟩
     |some z=>
      obtain⟨m',p1,p2⟩:=zP (no:=none) (show opt none (fun m=>some (m,true)) (sliceB (capN cc) z)=some (m,ex)from k2) (by simp)
      cases p2
      exact⟨p1,rfl⟩
    obtain⟨hm,hex⟩:=hm
    obtain⟨q1,q2,q3,q4⟩:=zAd (P:=P) (isSlice:=true) hcap c1 hm k4 h1 h2 h3 w
    have run:∀(mr:Nat),mr=(if mx.isSome then m else cap)→(Instr.sliceAt t (.slice (some ⟨k.r,k.o+o,none⟩) len cap) lov hiv mxv).run P w=
      .ok (.slice (if mr=l then some ⟨k.r,k.o+o,none⟩else some ⟨k.r,k.o+(o+l*P.cellsOf e),none⟩) (hh - l) (mr - l)) w:=by
     intro mr hmr
     rw[←hmr]at q1
     simp[Instr.sliceAt,Instr.slice,run_underlying g1,q1,hs,wE,Nat.add_assoc]
    change cond (Nat.beq m l) _ _=some v at k5
    by_cases hml:m=l
    ·subst hml
     rw[show Nat.beq m m=true by rw[zBn];simp]at k5
     cases hE:ex with
     |true=>
      rw[hE]at k5
      cases k5
      have hmr:(if mx.isSome then m else cap)=m:=by
       cases hx:mx.isSome with
       |true=>simp
       |false=>
        rw[hx]at hex
        have:capE cc=true:=by simpa[hE]using hex.symm
        have hcc:m=capN cc:=by
         cases mx with
         |none=>cases hm;rfl
         |some _=>cases hx
        simp[c2 this,hcc]
      refine Sim.pure h (run m hmr.symm) ?_
      rw[if_pos rfl]
      exact .slice b o _ _ _ _ k hk ⟨by rw[zBG];show hh - m≤0;omega,fun _=>by rw[zBG];omega,fun e=>by rw[zFV]at e;cases e⟩
     |false=>
      rw[hE]at k5
      cases m with
      |succ m=>
       cases k5
       have hx:mx.isSome=false:=by cases hx:mx.isSome<;>simp_all
       obtain rfl:hh=m+1:=by omega
       refine Sim.pure h (run cap (by simp[hx])) ?_
       rw[show m+1 - (m+1)=0 by omega]
       split
       ·exact .loose _ _ _
       ·exact .loose _ _ _
      |zero=>
       cases k5
       have hx:mx.isSome=false:=by cases hx:mx.isSome<;>simp_all
       have hE':capE cc=false:=by rw[hx]at hex;simpa[hE]using hex.symm
       refine Sim.pure h (run cap (by simp[hx])) ?_
       have e0:(if cap=0 then some (⟨k.r,k.o+o,none⟩:Addr)else some ⟨k.r,k.o+(o+0*P.cellsOf e),none⟩)=some ⟨k.r,k.o+o,none⟩:=by split<;>simp
       rw[e0]
       refine .slice b o _ _ _ _ k hk ⟨by rw[capN_A];show hh - 0≤0;omega,fun e=>(by rw[capE_A]at e;cases e),fun _=>⟨by rw[capN_A];omega,?_⟩⟩
       simpa using (c3 hE').2
    ·rw[show Nat.beq m l=false by rw[zBn];simp[hml]]at k5
     cases k5
     cases hE:ex with
     |true=>
      have hmr:(if mx.isSome then m else cap)=m:=by
       cases hx:mx.isSome with
       |true=>simp
       |false=>
        rw[hx]at hex
        have:capE cc=true:=by simpa[hE]using hex.symm
        have hcc:m=capN cc:=by
         cases mx with
         |none=>cases hm;rfl
         |some _=>cases hx
        simp[c2 this,hcc]
      refine Sim.pure h (run m hmr.symm) ?_
      rw[if_neg hml]
      exact .slice b _ _ _ _ _ k hk ⟨by show hh - l≤capN (capX (m - l));rw[zBG];omega,fun _=>by show m - l=capN (capX (m - l));rw[zBG],fun e=>by change capE (capX (m - l))=false at e;rw[zFV]at e;cases e⟩
     |false=>
      have hx:mx.isSome=false:=by cases hx:mx.isSome<;>simp_all
      have hE':capE cc=false:=by rw[hx]at hex;simpa[hE]using hex.symm
      obtain⟨d1,d2⟩:=c3 hE'
      refine Sim.pure h (run cap (by simp[hx])) ?_
      rw[if_neg (by omega)]
      refine .slice b _ _ _ _ _ k hk ⟨by show hh - l≤capN (capA (m - l));rw[capN_A];omega,fun e=>(by change capE (capA (m - l))=true at e;rw[capE_A]at e;cases e),fun _=>⟨by show capN (capA (m - l))≤_;rw[capN_A];omega,?_⟩⟩
      show o+l*P.cellsOf e+(cap - l)*P.cellsOf e≤k.m
      have:l*P.cellsOf e+(cap - l)*P.cellsOf e=cap*P.cellsOf e:=by rw[←Nat.add_mul];congr 1;omega
      omega
  ·obtain⟨m,k2,k3⟩:=zP (no:=none) k0 (by simp)
   obtain⟨⟨l,hh⟩,k4,k5⟩:=zP (no:=none) k3 (by simp)
   cases k5
   obtain⟨q1,q2,q3,q4⟩:=zAd (P:=P) (isSlice:=true) (Nat.le_refl 0) (Nat.le_refl 0) k2 k4 h1 h2 h3 w
   have hm0:m=0:=by omega
   subst hm0
   cases hx
   refine Sim.pure h (x:=.slice none 0 0) ?_ .nils
   have:l=0:=by omega
   subst this
   have:hh=0:=by omega
   subst this
   simp at q1
   simp[Instr.sliceAt,Instr.slice,run_underlying g1,q1,hs]
 |string=>
  rw[ht]at hr
  have g1:=zAB ht
  obtain⟨s,rfl,k1⟩:=zAm (no:=none) hr (by simp)
  cases h3 with
  |some _ _ _=>cases k1
  |none=>
   obtain⟨⟨l,hh⟩,k4,k5⟩:=zP (no:=none) (show opt none (fun lh=>some (V.str ((s.take lh.2).drop lh.1))) (zCN s.length s.length lo hi none)=some v from k1) (by simp)
   cases k5
   cases hx with
   |str s=>
    rw[zEh]at k4
    obtain⟨q1,q2,q3,q4⟩:=zAd (P:=P) (mx:=none) (isSlice:=false) (Nat.le_refl s.size) (Nat.le_refl s.size) rfl k4 h1 h2 .none w
    refine Sim.pure h (x:=.string (s.extract l hh)) ?_ ?_
    ·simp at q1
     simp[Instr.sliceAt,Instr.slice,run_underlying g1,q1]
    ·have:((bytesOf s).take hh).drop l=bytesOf (s.extract l hh):=by
      simp[bytesOf,ByteArray.data_extract,List.extract_eq_take_drop,List.drop_take]
     show VR φ (.str (((bytesOf s).take hh).drop l)) _
     rw[this];exact .str _
 |_=>rw[ht]at hr;cases hr
end Vam
namespace Vam
open Go
variable {P:Program}{φ:Phi}{H H':CH}{w:World}{v:V}
theorem zHh{b:Id}{k:Loc}(h:Rel P φ H w)(hb:φ b=some k){es:List Ent}{c:Nat}(hg:H.get b=some (.map es c)):
  ∃(rs:Array MapEntry) (c':Nat),(getObj k.r).run P w=.ok (.map rs c') w∧w.heap[k.r]? =some (.map rs c')∧EntsR φ es rs.toList:=by
 obtain⟨x,hx,hbl⟩:=h.blk b k hb
 rw[hg]at hx;cases hx
 obtain⟨rs,c',h1,h2⟩:=hbl
 exact⟨rs,c',by simp[getObj,Sem.run,h1],h1,h2⟩
theorem EntsR.len{es:List Ent}{rs:List MapEntry}(h:EntsR φ es rs):es.length=rs.length:=by
 induction h with
 |nil=>rfl
 |cons _ _ _ _ _ _ _ ih=>simp[ih]
theorem entLen_eq(es:List Ent):entLen es=es.length:=by
 unfold entLen
 have key:∀(es:List Ent) (n:Nat),(List.rec (motive:=fun _=>Nat→Nat) (fun n=>n) (fun _ _ ih n=>ih (Nat.succ n)) es:Nat→Nat) n=es.length+n:=by
  intro es
  induction es with
  |nil=>intro n;simp
  |cons e es ih=>intro n;show(List.rec (motive:=fun _=>Nat→Nat) (fun n=>n) (fun _ _ ih n=>ih (Nat.succ n)) es:Nat→Nat) (Nat.succ n)=_;rw[ih];simp;omega
 simpa using key es 0
theorem onMapB_ok{α:Type}{f:List Ent→Nat→Option α}{b:Option Blk}{r:α}(h:zGe none f b=some r):∃es c,b=some (.map es c)∧f es c=some r:=by
 cases b with
 |none=>cases h
 |some x=>cases x<;>first|exact⟨_,_,rfl,h⟩|cases h
theorem mapEs_rel(h:Rel P φ H w){m:V}{mv:Value}(hm:VR φ m mv){es:List Ent}(hr:mapEs H m=some es):
  (mv=.map none∧es=[])∨∃(r:Nat) (rs:Array MapEntry) (c:Nat),mv=.map (some r)∧(getObj r).run P w=.ok (.map rs c) w∧EntsR φ es rs.toList:=by
 rcases onMap_ok (no:=none) hr (by simp)with ⟨b,rfl,h1⟩|⟨rfl,h1⟩
 ·obtain⟨es',c,h2,h3⟩:=onMapB_ok h1
  cases h3
  cases hm with
  |map _ k hk=>
   obtain⟨rs,c',h4,_,h5⟩:=zHh h hk h2
   exact .inr ⟨k.r,rs,c',rfl,h4,h5⟩
 ·cases h1;cases hm;exact .inl ⟨rfl,rfl⟩
theorem sim_len(h:Rel P φ H w){t ty:TypeId}{cn:Array Bool}{x:V}{xv:Value}(hx:VR φ x xv)(hr:zt H (lenB P H t x)=.ok v H'):
  Sim P φ H w (builtin .len #[t] ty cn #[xv]) v H':=by
 obtain⟨h1,rfl⟩:=yZ hr
 clear hr
 have key:∀n:Nat,(Builtin.len_ #[t] ty #[xv]).run P w=.ok (goInt n) w→v=num n→Sim P φ H' w (builtin .len #[t] ty cn #[xv]) v H':=by
  rintro n hn rfl
  exact⟨φ,w,_,.inl (by simp[builtin,hn,goInt]),h,.refl _ _ _,.int _ _⟩
 unfold lenB at h1
 cases ht:tyOf P t with
 |array n e=>
  rw[ht]at h1;cases h1
  exact key n (by simp[Builtin.len_,run_underlying (zAF ht).1]) rfl
 |slice e=>
  rw[ht]at h1
  rcases wC (no:=none) h1 (by simp)with ⟨b,o,l,c,s,rfl,h2⟩|⟨rfl,h2⟩
  ·cases h2
   cases hx with
   |slice=>exact key l (by simp[Builtin.len_,run_underlying (zq ht).1]) rfl
   |empty=>exact key 0 (by simp[Builtin.len_,run_underlying (zq ht).1]) rfl
   |loose=>exact key 0 (by simp[Builtin.len_,run_underlying (zq ht).1]) rfl
  ·cases h2;cases hx
   exact key 0 (by simp[Builtin.len_,run_underlying (zq ht).1]) rfl
 |map k e=>
  rw[ht]at h1
  obtain⟨es,h2,h3⟩:=zP (no:=none) h1 (by simp)
  cases h3
  rcases mapEs_rel h hx h2 with ⟨rfl,rfl⟩|⟨r,rs,c,rfl,h4,h5⟩
  ·exact key 0 (by simp[Builtin.len_,run_underlying (zDP ht).1]) rfl
  ·exact key rs.size (by simp[Builtin.len_,run_underlying (zDP ht).1,h4]) (by rw[entLen_eq,h5.len];simp)
 |string=>
  rw[ht]at h1
  obtain⟨s,rfl,h2⟩:=zAm (no:=none) h1 (by simp)
  cases h2
  cases hx with
  |str s=>exact key s.size (by simp[Builtin.len_,run_underlying (zAB ht)]) (by rw[zEh])
 |_=>rw[ht]at h1;cases h1
theorem sim_cap(h:Rel P φ H w){t ty:TypeId}{cn:Array Bool}{x:V}{xv:Value}(hx:VR φ x xv)(hr:zt H (capB P t x)=.ok v H'):
  Sim P φ H w (builtin .cap #[t] ty cn #[xv]) v H':=by
 obtain⟨h1,rfl⟩:=yZ hr
 clear hr
 have key:∀n:Nat,(Builtin.cap_ #[t] ty #[xv]).run P w=.ok (goInt n) w→v=num n→Sim P φ H' w (builtin .cap #[t] ty cn #[xv]) v H':=by
  rintro n hn rfl
  exact⟨φ,w,_,.inl (by simp[builtin,hn,goInt]),h,.refl _ _ _,.int _ _⟩
 unfold capB at h1
 cases ht:tyOf P t with
 |slice e=>
  rw[ht]at h1
  rcases wC (no:=none) h1 (by simp)with ⟨b,o,l,c,s,rfl,h2⟩|⟨rfl,h2⟩
  ·obtain⟨h3,h4⟩:=zH (show cond (capE c) (some (num (capN c))) none=some v from h2) (by simp)
   cases h4
   cases hx with
   |slice _ _ _ _ _ cap k hk hc=>exact key (capN c) (by simp[Builtin.cap_,run_underlying (zq ht).1,hc.2.1 h3]) rfl
   |empty=>exact key 0 (by simp[Builtin.cap_,run_underlying (zq ht).1]) rfl
   |loose=>cases h3
  ·cases h2;cases hx
   exact key 0 (by simp[Builtin.cap_,run_underlying (zq ht).1]) rfl
 |_=>rw[ht]at h1;cases h1
theorem foldV_cons(f:V→V→Option V)(y l x:V):zCI f (.cons y l) x=opt none (zCI f l) (f y x):=rfl
theorem foldV_nil(f:V→V→Option V)(x:V):zCI f .nil x=some x:=rfl
theorem fold_rel{f:V→V→Option V}{g:Value→Value→Sem Value}
  (hfg:∀{x y z:V} {xv yv:Value},f y x=some z→VR φ x xv→VR φ y yv→∃zv,(g xv yv).run P w=.ok zv w∧VR φ z zv):
  ∀{l:V} {ys:List Value} {x r:V} {xv:Value},LR φ l ys→VR φ x xv→zCI f l x=some r→∃rv,(ys.foldlM g xv).run P w=.ok rv w∧VR φ r rv:=by
 intro l
 induction l with
 |nil=>intro ys x r xv hl hx hr;rw[LR.inv_nil hl];rw[foldV_nil]at hr;cases hr;exact⟨xv,by simp,hx⟩
 |cons y l _ ih=>
  intro ys x r xv hl hx hr
  obtain⟨yv,ys',rfl,h1,h2⟩:=LR.inv_cons hl
  rw[foldV_cons]at hr
  obtain⟨z,h3,h4⟩:=zP (no:=none) hr (by simp)
  obtain⟨zv,h5,h6⟩:=hfg h3 hx h1
  obtain⟨rv,h7,h8⟩:=ih h2 h6 h4
  exact⟨rv,by simp[List.foldlM_cons,h5,h7],h8⟩
 |_=>intro ys x r xv hl;cases hl
theorem sim_min(h:Rel P φ H w){ts:Array TypeId}{ty:TypeId}{cn:Array Bool}{x l:V}{xs:List Value}(hx:LR φ (.cons x l) xs)(hr:zt H (zCI minV l x)=.ok v H'):
  Sim P φ H w (builtin .min ts ty cn xs.toArray) v H':=by
 obtain⟨h1,rfl⟩:=yZ hr
 obtain⟨xv,xs',rfl,h2,h3⟩:=LR.inv_cons hx
 obtain⟨rv,h4,h5⟩:=fold_rel (P:=P) (w:=w) (f:=minV) (g:=Builtin.min2) (fun {x y z xv yv} e ex ey=>by
  obtain⟨k,a,rfl,e1⟩:=wh (no:=none) e (by simp)
  obtain⟨k',b,rfl,e2⟩:=wh (no:=none) e1 (by simp)
  cases e2;cases ex;cases ey
  refine⟨.int k (if b<a then b else a),by simp[Builtin.min2],?_⟩
  rw[zCj]
  by_cases hh:b<a
  ·rw[if_pos hh,show decide (a≤b)=false by simp;omega];exact .int _ _
  ·rw[if_neg hh,show decide (a≤b)=true by simp;omega];exact .int _ _) h3 h2 h1
 exact⟨φ,w,rv,.inl (by simp[builtin,Builtin.min_,h4]),h,.refl _ _ _,h5⟩
theorem sim_max(h:Rel P φ H w){ts:Array TypeId}{ty:TypeId}{cn:Array Bool}{x l:V}{xs:List Value}(hx:LR φ (.cons x l) xs)(hr:zt H (zCI maxV l x)=.ok v H'):
  Sim P φ H w (builtin .max ts ty cn xs.toArray) v H':=by
 obtain⟨h1,rfl⟩:=yZ hr
 obtain⟨xv,xs',rfl,h2,h3⟩:=LR.inv_cons hx
 obtain⟨rv,h4,h5⟩:=fold_rel (P:=P) (w:=w) (f:=maxV) (g:=Builtin.max2) (fun {x y z xv yv} e ex ey=>by
  obtain⟨k,a,rfl,e1⟩:=wh (no:=none) e (by simp)
  obtain⟨k',b,rfl,e2⟩:=wh (no:=none) e1 (by simp)
  cases e2;cases ex;cases ey
  refine⟨.int k (if b > a then b else a),by simp[Builtin.max2],?_⟩
  rw[zCj]
  by_cases hh:b > a
  ·rw[if_pos hh,show decide (b≤a)=false by simp;omega];exact .int _ _
  ·rw[if_neg hh,show decide (b≤a)=true by simp;omega];exact .int _ _) h3 h2 h1
 exact⟨φ,w,rv,.inl (by simp[builtin,Builtin.max_,h4]),h,.refl _ _ _,h5⟩
inductive PartsR(φ:Phi):List (Nat×V)→List (Nat×Value)→Prop where
 |nil:PartsR φ [] []
 |cons (i:Nat) (x:V) (v:Value) (ps:List (Nat×V)) (qs:List (Nat×Value)):VR φ x v→PartsR φ ps qs→PartsR φ ((i,x)::ps) ((i,v)::qs)
theorem zBp(tm:TT)(p:Nat×Operand)(l:List (Nat×Operand)):zW tm (p::l)=(p.1,zG tm p.2)::zW tm l:=rfl
theorem zCY{tm:TT}{a:Act}(h:TmR φ tm a.tmps):∀{l:List (Nat×Operand)},(l.all fun p=>okO a.tmps.size p.2)=true→PartsR φ (zW tm l) (l.map fun p=>(p.1,a.eval p.2)):=by
 intro l
 induction l with
 |nil=>intro _;exact .nil
 |cons p l ih=>
  intro ho
  simp only[List.all_cons,Bool.and_eq_true]at ho
  rw[zBp]
  exact .cons _ _ _ _ _ (zAX h ho.1) (ih ho.2)
theorem fillL_nil(pl:Nat→Option (Nat×Nat))(c:V):zFH pl [] c=some c:=rfl
theorem zFG(pl:Nat→Option (Nat×Nat))(p:Nat×V)(ps:List (Nat×V))(c:V):zFH pl (p::ps) c=
  opt none (fun os=>cond (Nat.beq (lenV (zBF p.2) 0) os.2) (opt none (zFH pl ps) (putV c os.1 (zBF p.2))) none) (pl p.1):=rfl
theorem foldl_put(ys:List Value):∀(cs:Array Value) (off j0:Nat),(ys.zipIdx j0).foldl (fun(c:Array Value) (x:Value×Nat)=>c.setIfInBounds (off+x.2) x.1) cs=wP cs (off+j0) ys:=by
 induction ys with
 |nil=>intro cs off j0;rfl
 |cons y ys ih=>
  intro cs off j0
  simp only[List.zipIdx_cons,List.foldl_cons,wP]
  rw[ih];rfl
theorem putArr_list(ys:List Value)(cs:Array Value)(off:Nat)(h:off+ys.length≤cs.size):(wP cs off ys).toList=putL cs.toList off ys:=by
 apply List.ext_getElem?
 intro i
 have:=zDR ys cs off i h
 rw[Array.getElem?_toList,this]
 simp only[putL]
 by_cases h1:i<off
 ·rw[if_neg (by omega),List.append_assoc,List.getElem?_append_left (by simp;omega),List.getElem?_take,if_pos h1];simp
 ·by_cases h2:i<off+ys.length
  ·rw[if_pos (by omega),List.append_assoc,List.getElem?_append_right (by simp;omega),List.getElem?_append_left (by simp;omega)]
   congr 1;simp;omega
  ·rw[if_neg (by omega),List.getElem?_append_right (by simp;omega),List.getElem?_drop]
   simp only[Array.getElem?_toList]
   congr 1;simp;omega
theorem zEe(pl:Nat→Option (Nat×Nat)):∀{ps:List (Nat×V)} {qs:List (Nat×Value)} {c r:V} {cs:Array Value},PartsR φ ps qs→LR φ c cs.toList→
  zFH pl ps c=some r→∃rs:Array Value,Instr.fill pl cs qs=some rs∧LR φ r rs.toList:=by
 intro ps
 induction ps with
 |nil=>intro qs c r cs hp hc hr;cases hp;rw[fillL_nil]at hr;cases hr;exact⟨cs,by simp[Instr.fill],hc⟩
 |cons p ps ih=>
  intro qs c r cs hp hc hr
  cases hp with
  |cons i x v _ qs hx hp=>
   rw[zFG]at hr
   obtain⟨⟨off,size⟩,h1,h2⟩:=zP (no:=none) hr (by simp)
   obtain⟨h3,h4⟩:=zH h2 (by simp)
   obtain⟨c',h5,h6⟩:=zP (no:=none) h4 (by simp)
   dsimp only at h1 h3 h5
   have hl:=zEg hx
   obtain⟨p1,p2,_⟩:=putV_rel hc hl h5
   have hsz:v.cells.size=size:=by
    have:=zl h3;rw[zAR,LR.len hl]at this;simpa using this
   have hfit:off+v.cells.size≤cs.size:=by simpa using p1
   have e1:v.cells.zipIdx.foldl (fun(c:Array Value) (x:Value×Nat)=>c.setIfInBounds (off+x.2) x.1) cs=wP cs off v.cells.toList:=by
    rw[←Array.foldl_toList,Array.toList_zipIdx]
    exact foldl_put _ cs off 0
   obtain⟨rs,h7,h8⟩:=ih (cs:=wP cs off v.cells.toList) hp (by rw[putArr_list _ _ _ (by simpa using hfit)];exact p2) h6
   refine⟨rs,?_,h8⟩
   simp only[Instr.fill,h1]
   rw[if_neg (by simp[hsz];omega)]
   rw[←h7]
   congr 1
theorem mapM_places{w:World}:∀(fs:List Field),(∀f∈fs,zCt P f.type=true)→
  (fs.mapM fun f=>do Pure.pure (f.offset,←Go.sizeOf f.type):Sem (List (Nat×Nat))).run P w=.ok (fs.map fun f=>(f.offset,P.cellsOf f.type)) w:=by
 intro fs
 induction fs with
 |nil=>intro _;rfl
 |cons f fs ih=>
  intro h
  have h1:=yI (yV (h f (by simp))).1 w
  have h2:=ih (fun g hg=>h g (by simp[hg]))
  simp only[List.mapM_cons,Sem.run_bind,h1,Result.andThen_ok,Sem.run_pure,h2,List.map_cons]
theorem sim_build(h:Rel P φ H w){t:TypeId}{ps:List (Nat×V)}{qs:List (Nat×Value)}(hp:PartsR φ ps qs)(hr:zET P t ps H=.ok v H'):
  Sim P φ H w (do pure (.value (←Instr.build t qs.toArray))) v H':=by
 obtain⟨z,hz,h1⟩:=zP hr R.ok_ne
 obtain⟨pl,hpl,h2⟩:=zP h1 R.ok_ne
 obtain⟨l,hl,h3⟩:=zP h2 R.ok_ne
 cases h3
 obtain⟨zv,h4,h5⟩:=zBa hz w
 obtain⟨rs,h6,h7⟩:=zEe pl hp (h5 φ) hl
 refine Sim.pure h (x:=.agg rs) ?_ (.agg _ _ h7)
 unfold zGb at hpl
 cases ht:tyOf P t with
 |struct fs=>
  rw[ht]at hpl
  cases hpl
  obtain⟨F,g1,g2,g3⟩:=zCL ht
  subst g2
  have g4:=mapM_places (P:=P) (w:=w) F.toList g3
  have g5:(F.mapM fun f=>do Pure.pure (f.offset,←Go.sizeOf f.type):Sem (Array (Nat×Nat))).run P w=.ok (F.map fun f=>(f.offset,P.cellsOf f.type)) w:=by
   rw[←Array.toArray_toList (xs:=F),List.mapM_toArray,Sem.run_map,g4]
   simp only[Result.andThen_ok]
   rw[←Array.toList_map,Array.toArray_toList,Array.toArray_toList]
  have g6:(fun i=>(F.map fun f=>(f.offset,P.cellsOf f.type))[i]?)=fun i=>opt none (fun f=>some (f.offset,P.cellsOf f.type)) (nthO F.toList i):=by
   funext i
   rw[nthO_eq]
   simp only[Array.getElem?_map,Array.getElem?_toList]
   cases F[i]? <;>rfl
  have g7:(F.mapM fun f=>Prod.mk f.offset<$> Go.sizeOf f.type:Sem (Array (Nat×Nat))).run P w=.ok (F.map fun f=>(f.offset,P.cellsOf f.type)) w:=g5
  have e:(Instr.build t qs.toArray).run P w=.ok (.agg rs) w:=by
   rw[←g6]at h6
   simp only[Array.getElem?_map]at h6
   simp[Instr.build,h4,run_underlying g1,g7,h6]
  exact e
 |array n e=>
  rw[ht]at hpl
  cases hpl
  obtain⟨g1,g2⟩:=zAF ht
  have hs:=yI (yV g2).1 w
  simp only[Instr.build,Sem.run_bind,h4,Result.andThen_ok,run_underlying g1,hs]
  simp[h6]
 |_=>rw[ht]at hpl;cases hpl
end Vam
namespace Vam
open Go
variable {P:Program}{φ:Phi}{H H':CH}{w:World}{v:V}
theorem appV_cons(x l m:V):appV (.cons x l) m=.cons x (appV l m):=rfl
theorem appV_nil(m:V):appV .nil m=m:=rfl
theorem LR.app{l m:V}{xs ys:List Value}(hl:LR φ l xs)(hm:LR φ m ys):LR φ (appV l m) (xs++ys):=by
 induction l generalizing xs with
 |nil=>rw[LR.inv_nil hl,appV_nil];exact hm
 |cons x l _ ih=>
  obtain⟨v,xs',rfl,h1,h2⟩:=LR.inv_cons hl
  rw[appV_cons];exact .cons _ _ _ _ h1 (ih h2)
 |_=>cases hl
theorem repL_succ(z:V)(n:Nat):repL z (n+1)=appV z (repL z n):=rfl
theorem LR.rep{z:V}{zs:List Value}(h:LR φ z zs):∀n,LR φ (repL z n) (List.replicate n zs).flatten:=by
 intro n
 induction n with
 |zero=>exact .nil
 |succ n ih=>rw[repL_succ,List.replicate_succ,List.flatten_cons];exact LR.app h ih
theorem flatten_get(zs:List Value)(s:Nat)(hs:zs.length=s):∀(n i:Nat),i<n*s→(List.replicate n zs).flatten[i]? =zs[i % s]? :=by
 intro n
 induction n with
 |zero=>intro i h;omega
 |succ n ih=>
  intro i h
  rw[List.replicate_succ,List.flatten_cons]
  by_cases h1:i<s
  ·rw[List.getElem?_append_left (by omega),Nat.mod_eq_of_lt h1]
  ·rw[List.getElem?_append_right (by omega),hs]
   have h2:(n+1)*s=n*s+s:=by rw[Nat.add_mul,Nat.one_mul]
   rw[ih (i - s) (by omega),←Nat.mod_eq_sub_mod (by omega)]
theorem zAg(zs:Array Value)(n:Nat)(h:0<zs.size∨n=0):
  ((Array.range (n*zs.size)).map (zs[· % zs.size]!)).toList=(List.replicate n zs.toList).flatten:=by
 apply List.ext_getElem?
 intro i
 have hl:(List.replicate n zs.toList).flatten.length=n*zs.size:=by simp
 by_cases hi:i<n*zs.size
 ·rw[flatten_get zs.toList zs.size (by simp) n i hi]
  have hpos:0<zs.size:=by rcases h with h|h;exact h;subst h;omega
  have hm:i % zs.size<zs.size:=Nat.mod_lt _ hpos
  simp[hi,hm]
 ·rw[List.getElem?_eq_none (by simp;omega),List.getElem?_eq_none (by omega)]
theorem zHJ(h:Rel P φ H w){t:TypeId}{n:Nat}{ps:List (Nat×V)}{qs:List (Nat×Value)}(hp:PartsR φ ps qs)(hr:ze P t n ps H=.ok v H'):
  Sim P φ H w (do pure (.value (←Instr.buildSlice t n qs.toArray))) v H':=by
 unfold ze at hr
 split at hr
 ·rename_i e ht
  split at hr
  ·cases hr
  ·rename_i z hz
   split at hr
   ·rename_i hb1 hb2
    split at hr
    ·rename_i l hl
     obtain⟨g1,g2⟩:=zq ht
     have hs:=yI (yV g2).1 w
     obtain⟨zv,h4,h5⟩:=zBa hz w
     have hlen:zv.cells.size=P.cellsOf e:=by
      have:=zl hb1
      rw[zAR,LR.len (h5 φ)]at this;simpa using this
     have hle:n*P.cellsOf e≤4096:=Nat.le_of_ble_eq_true hb2
     obtain⟨H₁,e1,e2,e3,e4,e5⟩:=wK hr R.ok_ne h.nok
     cases e1
     obtain⟨cs,c1,c2⟩:∃cs:Array Value,(Instr.buildSlice t n qs.toArray).run P w=.ok (.slice (some ⟨w.heap.size,0,none⟩) n n) {w with heap:=w.heap.push (.cells cs e)}∧LR φ l cs.toList:=by
      by_cases h0:n*P.cellsOf e=0
      ·have hz0:LR φ (repL z n) (#[]:Array Value).toList:=by
        have h6:=LR.rep (h5 φ) n
        have:(List.replicate n zv.cells.toList).flatten=[]:=by
         apply List.length_eq_zero_iff.1;simp[hlen,h0]
        rw[this]at h6;exact h6
       obtain⟨cs,k1,k2⟩:=zEe _ hp hz0 hl
       refine⟨cs,?_,k2⟩
       simp only[Instr.buildSlice,Sem.run_bind,run_underlying g1,Result.andThen_ok,hs,h0]
       simp[k1,newRow,show Array.range 0=(#[]:Array Nat)from rfl]
      ·have hpos:0<zv.cells.size:=by rw[hlen];exact Nat.pos_of_ne_zero fun e=>h0 (by rw[e];simp)
       have hz0:LR φ (repL z n) ((Array.range (n*P.cellsOf e)).map (zv.cells[· % zv.cells.size]!)).toList:=by
        have h6:=LR.rep (h5 φ) n
        rw[←zAg _ _ (.inl hpos),hlen]at h6;rw[hlen];exact h6
       obtain⟨cs,k1,k2⟩:=zEe _ hp hz0 hl
       refine⟨cs,?_,k2⟩
       have hle2: ¬ (n*P.cellsOf e > 2 ^ 24):=by omega
       simp only[Instr.buildSlice,Sem.run_bind,run_underlying g1,Result.andThen_ok,hs]
       rw[if_neg hle2]
       simp[h0,h4,k1,newRow]
     have hnone:=h.none_at_n e2
     have hle':=Phi.le_with (⟨w.heap.size,0,cs.size⟩:Loc) hnone
     obtain⟨r1,r2⟩:=h.alloc (m:=cs.size) (o:=.cells cs e) e2 e3 e4 e5 (by
      refine .inr ⟨⟨cs,e,rfl,by simp,?_,cs.toList,c2.mono hle',fun i v hv=>by simpa using hv⟩,by simp⟩
      rw[LR.len c2];simp)
     exact⟨_,_,.slice (some ⟨w.heap.size,0,none⟩) n n,.inl (by simp[c1]),r1,r2,.slice _ 0 n _ _ n _ (Phi.with_self _ _ _) ⟨by rw[zBG];omega,fun _=>by rw[zBG],fun e=>by rw[zFV]at e;cases e⟩⟩
    ·cases hr
   ·cases hr
 ·cases hr
theorem sim_makeMap(h:Rel P φ H w){t:TypeId}{r:Option V}{rv:Option Value}(hp:OptR φ r rv)(ht:∃k e,P.underlying t=some (.map k e))(hr:zCS r H=.ok v H'):
  Sim P φ H w (do pure (.value (←Instr.makeMap t rv))) v H':=by
 obtain⟨h1,h2⟩:=zH hr R.ok_ne
 obtain⟨H₁,e1,e2,e3,e4,e5⟩:=wK h2 R.ok_ne h.nok
 cases e1
 obtain⟨r1,r2⟩:=h.alloc (m:=0) (o:=.map #[] 0) e2 e3 e4 e5 ⟨#[],0,rfl,.nil⟩
 obtain⟨k,e,g1⟩:=ht
 refine⟨_,_,_,.inl ?_,r1,r2,.map _ _ (Phi.with_self _ _ _)⟩
 cases hp with
 |none=>simp[Instr.makeMap]
 |some x xv hx=>
  obtain⟨kk,n,rfl,_⟩:=wh (no:=false) (show zDB false (fun _ _=>true) x=true from h1) (by simp)
  cases hx
  simp[Instr.makeMap,run_underlying g1,asInt,asIntOf]
theorem sim_makeSlice(h:Rel P φ H w){t:TypeId}{x y:V}{xv yv:Value}(hx:VR φ x xv)(hy:VR φ y yv)(hr:zCB P t x y H=.ok v H'):
  Sim P φ H w (do pure (.value (←Instr.makeSlice t xv yv))) v H':=by
 unfold zCB at hr
 split at hr
 ·rename_i e ht
  obtain⟨k1,l,rfl,h1⟩:=zBL hr R.ok_ne
  obtain⟨k2,c,rfl,h2⟩:=zBL h1 R.ok_ne
  split at h2
  ·rename_i hb1 hb2 hz
   rename_i z
   split at h2
   ·rename_i hb3
    obtain⟨g1,g2⟩:=zq ht
    obtain⟨i,hi⟩:=(yV g2).1
    have hs:=yI (yV g2).1 w
    obtain⟨zv,h4,h5⟩:=zBa hz w
    have hlen:zv.cells.size=P.cellsOf e:=by
     have:=zl hb3
     rw[zAR,LR.len (h5 φ)]at this;simpa using this
    have hle:l≤c:=Nat.le_of_ble_eq_true hb1
    have hmax:c*(P.bytesOf e+P.cellsOf e+1)≤16777216:=Nat.le_of_ble_eq_true hb2
    have hc:c≤16777216:=Nat.le_trans (Nat.le_mul_of_pos_right c (by omega)) hmax
    have hcb:c*P.bytesOf e≤16777216:=Nat.le_trans (Nat.mul_le_mul_left c (by omega)) hmax
    have hby:i.bytes=P.bytesOf e:=by simp[Program.bytesOf,hi]
    cases hx;cases hy
    have w1:IntKind.i64.wrap (l:Int)=l:=IntWalk.i64_in _ (by omega)
    have w2:IntKind.i64.wrap (c:Int)=c:=IntWalk.i64_in _ (by omega)
    obtain⟨H₁,e1,e2,e3,e4,e5⟩:=wK h2 R.ok_ne h.nok
    cases e1
    obtain⟨cs,c1,c2⟩:∃cs:Array Value,(Instr.makeSlice t (.int k1 l) (.int k2 c)).run P w=.ok (.slice (some ⟨w.heap.size,0,none⟩) l c) {w with heap:=w.heap.push (.cells cs e)}∧LR φ (repL z c) cs.toList:=by
     have n1: ¬ ((c:Int)<0):=by omega
     have n2: ¬ (281474976710656<(i.bytes:Int)*(c:Int)):=by
      rw[hby,Int.mul_comm]
      have h9:((c*P.bytesOf e:Nat):Int)≤((16777216:Nat):Int):=Int.ofNat_le.2 hcb
      rw[Int.natCast_mul]at h9
      intro h10
      have h11:=Int.lt_of_lt_of_le h10 h9
      exact absurd h11 (by decide)
     have n3: ¬ ((l:Int)<0):=by omega
     have n4: ¬ ((l:Int) > (c:Int)):=by omega
     by_cases h0:c*P.cellsOf e=0
     ·refine⟨#[],?_,?_⟩
      ·simp[Instr.makeSlice,run_underlying g1,asInt,asIntOf,run_typeInfo w hi,w1,w2,n1,n2,n3,n4,hs,h0,newRow,show Array.range 0=(#[]:Array Nat)from rfl]
      ·have h6:=LR.rep (h5 φ) c
       have:(List.replicate c zv.cells.toList).flatten=[]:=by
        apply List.length_eq_zero_iff.1;simp[hlen,h0]
       rw[this]at h6;exact h6
     ·have hpos:0<zv.cells.size:=by rw[hlen];exact Nat.pos_of_ne_zero fun e=>h0 (by rw[e];simp)
      refine⟨(Array.range (c*P.cellsOf e)).map (zv.cells[· % zv.cells.size]!),?_,?_⟩
      ·simp[Instr.makeSlice,run_underlying g1,asInt,asIntOf,run_typeInfo w hi,w1,w2,n1,n2,n3,n4,hs,h0,h4,newRow]
      ·have h6:=LR.rep (h5 φ) c
       rw[←zAg _ _ (.inl hpos),hlen]at h6;rw[hlen];exact h6
    have hnone:=h.none_at_n e2
    have hle':=Phi.le_with (⟨w.heap.size,0,cs.size⟩:Loc) hnone
    obtain⟨r1,r2⟩:=h.alloc (m:=cs.size) (o:=.cells cs e) e2 e3 e4 e5 (by
     refine .inr ⟨⟨cs,e,rfl,by simp,?_,cs.toList,c2.mono hle',fun i v hv=>by simpa using hv⟩,by simp⟩
     rw[LR.len c2];simp)
    exact⟨_,_,.slice (some ⟨w.heap.size,0,none⟩) l c,.inl (by simp[c1]),r1,r2,.slice _ 0 l _ _ c _ (Phi.with_self _ _ _) ⟨by rw[zBG];exact hle,fun _=>by rw[zBG],fun e=>by rw[zFV]at e;cases e⟩⟩
   ·cases h2
  ·cases h2
 ·cases hr
end Vam
namespace Vam
open Go
variable {P:Program}{φ:Phi}{H H':CH}{w:World}{v:V}
def IsObj:Blk→Prop
 | .map _ _=>True
 | .loop _ _ _ _ _ _ _ _=>True
 | .dfr _=>True
 |_=>False
theorem zDQ{r:Nat}{o o':Obj}(h:w.heap[r]? =some o)(hn:∀a b c,o≠.cells a b c):(setObj r o').run P w=.ok () {w with heap:=w.heap.setIfInBounds r o'}:=by
 simp only[setObj,Sem.run,h]
theorem zGq{y:Blk}(iy:IsObj y){k:Loc}{o:Option Obj}(hy:BlkR P φ y k o):∃o',o=some o'∧zBk o':=by
 cases y with
 |map es c=>obtain⟨rs,c',h,_⟩:=hy;exact⟨_,h,trivial⟩
 |loop s pe fn tm ps x y d=>obtain⟨_,_,_,_,h,_⟩:=hy;exact⟨_,h,trivial⟩
 |dfr t=>exact⟨_,hy,trivial⟩
 |_=>exact iy.elim
theorem Rel.setObj(h:Rel P φ H w){b:Id}{k:Loc}(hb:φ b=some k){x y:Blk}{o:Obj}(hx:H.get b=some x)(ix:IsObj x)(iy:IsObj y)
  (hs:H.set b y=some H') (hy:BlkR P φ y k (some o)):
  Rel P φ H' {w with heap:=w.heap.setIfInBounds k.r o}∧Ext φ H w φ H' {w with heap:=w.heap.setIfInBounds k.r o}:=by
 obtain⟨hbw,hbn,hbr⟩:=h.wf b k hb
 obtain⟨s1,s2,s3,s4⟩:=CH.set_some hs hbw
 have wx:Wr x:=by cases x<;>first|trivial|exact ix.elim
 have other:∀c l z,φ c=some l→c≠b→l.r=k.r→H.get c=some z→Dead z:=by
  intro c l z hc hne hlr hz
  rcases h.sep b c k l x z hb hc (Ne.symm hne) hlr.symm hx hz with hd|hd|⟨hd,_⟩|⟨_,_,_,_,_,_,_,_,hd,_⟩|⟨_,_,_,_,_,_,hd,_⟩
  ·cases x<;>first|exact ix.elim|exact hd.elim
  ·exact hd
  ·exact absurd wx hd
  ·subst hd;exact ix.elim
  ·subst hd;exact ix.elim
 refine h.and ?_ ?_
 ·refine⟨?_,?_,?_,?_⟩
  ·rw[s1];exact h.nok
  ·intro c l hc
   obtain⟨h1,h2,h3⟩:=h.wf c l hc
   exact⟨h1,by rw[s1];exact h2,by simpa using h3⟩
  ·intro c l hc
   obtain⟨h1,h2,h3⟩:=h.wf c l hc
   by_cases ec:c=b
   ·subst ec
    rw[hb]at hc;cases hc
    refine⟨y,by rw[s4 c h1,if_pos rfl],?_⟩
    show BlkR P φ y k ((w.heap.setIfInBounds k.r o)[k.r]?)
    rw[Array.getElem?_setIfInBounds,if_pos rfl,if_pos h3];exact hy
   ·obtain⟨z,h4,h5⟩:=h.blk c l hc
    refine⟨z,by rw[s4 c h1,if_neg ec];exact h4,?_⟩
    by_cases er:l.r=k.r
    ·have:=other c l z hc ec er h4
     cases z with
     |cells cs e st sh=>exact .inl this
     |_=>exact this.elim
    ·show BlkR P φ z l ((w.heap.setIfInBounds k.r o)[l.r]?)
     rw[Array.getElem?_setIfInBounds_ne (by omega)];exact h5
  ·intro c d l m p q hc hd hne hlr hp hq
   obtain⟨hcw,_,_⟩:=h.wf c l hc
   obtain⟨hdw,_,_⟩:=h.wf d m hd
   rw[s4 c hcw]at hp
   rw[s4 d hdw]at hq
   by_cases ec:c=b
   ·subst ec
    rw[hb]at hc;cases hc
    rw[if_neg (Ne.symm hne)]at hq
    exact .inr (.inl (other d m q hd (Ne.symm hne) hlr.symm hq))
   ·rw[if_neg ec]at hp
    by_cases ed:d=b
    ·subst ed
     rw[hb]at hd;cases hd
     exact .inl (other c l p hc hne hlr hp)
    ·rw[if_neg ed]at hq
     exact h.sep c d l m p q hc hd hne hlr hp hq
 ·have hwr:WrAt H b:=⟨s3,x,hx,wx⟩
  refine⟨Phi.le_refl φ,s2,?_,?_,?_,?_,?_,?_,by simp,rfl,rfl,rfl,?_,fun c hcb hcw hd=>by
   obtain⟨cs2,e2,sh2,hd⟩:=hd
   by_cases ec:c=b
   ·subst ec;rw[hx]at hd;cases hd;exact ix.elim
   ·exact⟨cs2,e2,sh2,by rw[s4 c hcw,if_neg ec];exact hd⟩⟩
  ·intro c l h1 h2;rw[h2]at h1;cases h1
  ·intro c hc;rw[s1];exact hc
  ·intro c l h1 h2;rw[h2]at h1;cases h1
  ·intro r _ hall
   exact Array.getElem?_setIfInBounds_ne (fun e=>hall b k hb e hwr)
  ·rintro c hcb hcw hn ⟨h1,z,h2,h3⟩
   by_cases ec:c=b
   ·subst ec;exact hn hwr
   ·rw[s4 c hcw,if_neg ec]at h2
    exact hn ⟨by rw[←s2];exact h1,z,h2,h3⟩
  ·intro c hcb hcw hf
   rw[s4 c hcw,if_neg]
   rintro rfl;omega
  ·obtain⟨z,h1,h2⟩:=h.blk b k hb
   rw[hx]at h1;cases h1
   obtain⟨o₀,h3,h4⟩:=zGq ix h2
   obtain⟨o₁,h5,h6⟩:=zGq iy hy
   cases h5
   exact zFB w h3 h4 h6
noncomputable def keyN(P:Program)(d:Nat):TypeId→V→Bool:=Nat.rec (motive:=fun _=>TypeId→V→Bool) (fun _ _=>false) (fun _ ih=>keyStep P ih) d
theorem zHO (ih : TypeId → V → Bool) (xs : V) (f : Field) (fs : List Field) : zEX P ih xs (f :: fs) = (match f.name == "_" with
  |true=>zEX P ih xs fs
  |false=>opt false (fun x=>cond (ih f.type x) (zEX P ih xs fs) false) (zBm P f.type xs f.offset)):=rfl
theorem keyElems_succ(ih:TypeId→V→Bool)(e:TypeId)(xs:V)(n i:Nat):keyElems P ih e xs (n+1) i=
  opt false (fun x=>cond (ih e x) (keyElems P ih e xs n (i+1)) false) (zBm P e xs (i*P.cellsOf e)):=rfl
theorem keyN_rel(empty:Bool):∀(d:Nat) {t:TypeId} {x:V} {xv:Value},keyN P d t x=true→VR φ x xv→∀(D:Nat),d≤D→∀w:World,(Instr.checkKey empty D t xv).run P w=.ok () w:=by
 intro d
 induction d with
 |zero=>intro t x xv h;cases h
 |succ d ih=>
  intro t x xv h hx D hD w
  obtain⟨D,rfl⟩:∃D',D=D'+1:=⟨D - 1,by omega⟩
  change keyStep P (keyN P d) t x=true at h
  unfold keyStep at h
  cases ht:tyOf P t with
  |struct fs=>
   rw[ht]at h
   obtain⟨xs,rfl,h2⟩:=wS (no:=false) h (by simp)
   obtain⟨F,g1,g2,g3⟩:=zCL ht
   cases hx with
   |agg _ cs hl=>
    simp only[Instr.checkKey,Sem.run_bind,run_underlying g1,Result.andThen_ok]
    rw[←Array.forIn_toList,g2]
    clear ht h g1 g2 g3
    induction fs with
    |nil=>simp
    |cons f fs ihf=>
     rw[zHO]at h2
     cases hn : f.name == "_" with
     |true=>
      rw[hn]at h2
      have : f.name = "_" := by simpa using hn
      simp only[List.forIn_cons,this,ne_eq,not_true_eq_false,if_false,Sem.run_bind,Sem.run_pure,Result.andThen_ok]
      simpa using ihf h2
     |false=>
      rw[hn]at h2
      have hne : f.name ≠ "_" := by simpa using hn
      obtain⟨a,k1,h3⟩:=zP (no:=false) h2 (by simp)
      obtain⟨h4,h5⟩:=zH h3 (by simp)
      obtain⟨av,p1,p2⟩:=zAs hl k1 w
      have e:=ih h4 p2 D (by omega) w
      simp only[Array.toArray_toList]at p1
      simp only[List.forIn_cons,hne,ne_eq,not_false_eq_true,if_true,Sem.run_bind,p1,e,Result.andThen_ok,Sem.run_pure]
      simpa using ihf h5
  |array n e=>
   rw[ht]at h
   obtain⟨xs,rfl,h2⟩:=wS (no:=false) h (by simp)
   obtain⟨g1,g2⟩:=zAF ht
   have hs:=yI (yV g2).1 w
   cases hx with
   |agg _ cs hl=>
    simp only[Instr.checkKey,Sem.run_bind,run_underlying g1,Result.andThen_ok]
    simp only[Std.Legacy.Range.forIn_eq_forIn_range',Std.Legacy.Range.size,Nat.sub_zero,Nat.add_one_sub_one,Nat.div_one]
    clear ht h g1 g2
    generalize 0=j at h2 ⊢
    induction n generalizing j with
    |zero=>simp
    |succ n ihn=>
     rw[keyElems_succ]at h2
     obtain⟨a,k1,h3⟩:=zP (no:=false) h2 (by simp)
     obtain⟨h4,h5⟩:=zH h3 (by simp)
     obtain⟨av,p1,p2⟩:=zAs hl k1 w
     have e:=ih h4 p2 D (by omega) w
     simp only[Array.toArray_toList]at p1
     simp only[List.range'_succ,List.forIn_cons,Sem.run_bind,hs,p1,e,Result.andThen_ok,Sem.run_pure]
     simpa using ihn (j+1) h5
  |string=>
   cases hx<;>simp[Instr.checkKey,run_underlying (zAB ht)]
  |int k=>
   cases hx<;>simp[Instr.checkKey,run_underlying (zFl ht)]
  |bool=>
   cases hx<;>simp[Instr.checkKey,run_underlying (tyOf_bool ht)]
  |_=>rw[ht]at h;cases h
theorem findK_nil(kt:TypeId)(k:V)(i:Nat):zCq P kt k [] i=some none:=rfl
theorem zHk(kt:TypeId)(k:V)(e:Ent)(es:List Ent)(i:Nat):zCq P kt k (e::es) i=
  opt none (fun b=>cond b (some (some (i,e.key,e.val))) (zCq P kt k es (i+1))) (eqT P kt k e.key):=rfl
def FoundR(φ:Phi)(es:List Ent)(rs:List MapEntry)(i₀:Nat)(r:Option (Nat×V×V))(o:Option (Nat×Value)):Prop:=
 match r,o with
 |none,none=>True
 |some (i,key,val),some (j,u)=>i=j∧i₀≤i∧∃e m,es[i - i₀]? =some e∧rs[i - i₀]? =some m∧e.key=key∧e.val=val∧m.val=u∧VR φ key m.key∧VR φ val u
 |_,_=>False
theorem zHQ{kt:TypeId}{k:V}{kv:Value}(hk:VR φ k kv)(w:World):∀{es:List Ent} {rs:List MapEntry} {i:Nat} {r:Option (Nat×V×V)},EntsR φ es rs→
  zCq P kt k es i=some r→∃o,(Instr.findAsking kt kv rs i).run P w=.ok o w∧FoundR φ es rs i r o:=by
 intro es
 induction es with
 |nil=>intro rs i r hE h;cases hE;rw[findK_nil]at h;cases h;exact⟨none,by simp[Instr.findAsking],trivial⟩
 |cons e es ih=>
  intro rs i r hE h
  cases hE with
  |cons _ m _ rs h1 h2 hE=>
   rw[zHk]at h
   obtain⟨b,h3,h4⟩:=zP (no:=none) h (by simp)
   have h5:=eqT_rel h3 hk h1 w
   cases b with
   |true=>
    cases h4
    exact⟨some (i,m.val),by simp[Instr.findAsking,h5],rfl,Nat.le_refl _,e,m,by simp,by simp,rfl,rfl,rfl,h1,h2⟩
   |false=>
    obtain⟨o,h6,h7⟩:=ih hE h4
    refine⟨o,by simp[Instr.findAsking,h5,h6],?_⟩
    cases r with
    |none=>cases o<;>first|trivial|exact h7.elim
    |some r=>
     obtain⟨j,key,val⟩:=r
     cases o with
     |none=>exact h7.elim
     |some o=>
      obtain⟨j',u⟩:=o
      obtain⟨q1,q2,e',m',q3,q4,q5⟩:=h7
      refine⟨q1,by omega,e',m',?_,?_,q5⟩
      ·rw[show j - i=(j - (i+1))+1 by omega];simpa using q3
      ·rw[show j - i=(j - (i+1))+1 by omega];simpa using q4
theorem zGU{kt:TypeId}{d:TypeDesc}(hd:P.underlying kt=some d){x y:V}{xv yv:Value}(hx:VR φ x xv)(hy:VR φ y yv){r b:Bool}(h:eqT P kt x y=some r)
  (hs:Instr.sameNow d xv yv=some b) (w:World):r=b:=by
 have h1:=eqT_rel h hx hy w
 unfold Instr.sameNow at hs
 split at hs
 ·split at hs
  ·cases hs
   rename_i k' k a k2 b2 hk
   subst hk
   have h2:(Op.equal kt (.int k a) (.int k b2)).run P w=.ok (a==b2) w:=run_equalIn_int w 9999 kt k k' a b2 hd
   rw[h2]at h1;cases h1;rfl
  ·cases hs
 ·cases hs
  rename_i a b2
  have h2:(Op.equal kt (.string a) (.string b2)).run P w=.ok (a.toList==b2.toList) w:=run_equalIn_string w 9999 kt a b2 hd
  rw[h2]at h1;cases h1;rw[beq_toListBytes]
 ·cases hs
  rename_i a b2
  have h2:(Op.equal kt (.bool a) (.bool b2)).run P w=.ok (a==b2) w:=run_equalIn_bool' w 9999 kt a b2 hd
  rw[h2]at h1;cases h1;rfl
 ·cases hs
theorem findNow_rel{kt:TypeId}{d:TypeDesc}(hd:P.underlying kt=some d){k:V}{kv:Value}(hk:VR φ k kv)(w:World):∀{es:List Ent} {rs:List MapEntry} {i:Nat}
  {r:Option (Nat×V×V)} {o:Option (Nat×Value)},EntsR φ es rs→zCq P kt k es i=some r→Instr.findNow d kv rs i=some o→FoundR φ es rs i r o:=by
 intro es
 induction es with
 |nil=>intro rs i r o hE h hf;cases hE;rw[findK_nil]at h;cases h;cases hf;trivial
 |cons e es ih=>
  intro rs i r o hE h hf
  cases hE with
  |cons _ m _ rs h1 h2 hE=>
   rw[zHk]at h
   obtain⟨b,h3,h4⟩:=zP (no:=none) h (by simp)
   simp only[Instr.findNow]at hf
   split at hf
   ·rename_i hs
    have:=zGU hd hk h1 h3 hs w
    subst this
    cases h4;cases hf
    exact⟨rfl,Nat.le_refl _,e,m,by simp,by simp,rfl,rfl,rfl,h1,h2⟩
   ·rename_i hs
    have:=zGU hd hk h1 h3 hs w
    subst this
    have h7:=ih hE h4 hf
    cases r with
    |none=>cases o<;>first|trivial|exact h7.elim
    |some r=>
     obtain⟨j,key,val⟩:=r
     cases o with
     |none=>exact h7.elim
     |some o=>
      obtain⟨j',u⟩:=o
      obtain⟨q1,q2,e',m',q3,q4,q5⟩:=h7
      refine⟨q1,by omega,e',m',?_,?_,q5⟩
      ·rw[show j - i=(j - (i+1))+1 by omega];simpa using q3
      ·rw[show j - i=(j - (i+1))+1 by omega];simpa using q4
   ·cases hf
theorem zGx{kt:TypeId}(hk0:zCt P kt=true){k:V}{kv:Value}(hk:VR φ k kv)(w:World){es:List Ent}{rs:List MapEntry}{r:Option (Nat×V×V)}(hE:EntsR φ es rs)
  (h:zCq P kt k es 0=some r):∃o,(Instr.findKey kt kv rs).run P w=.ok o w∧FoundR φ es rs 0 r o:=by
 obtain⟨d,hd⟩:=(yV hk0).2
 cases hf:Instr.findNow d kv rs 0 with
 |some o=>exact⟨o,by simp[Instr.findKey,run_underlying hd,hf],findNow_rel hd hk w hE h hf⟩
 |none=>
  obtain⟨o,h1,h2⟩:=zHQ hk w hE h
  exact⟨o,by simp[Instr.findKey,run_underlying hd,hf,h1],h2⟩
theorem zeroV_rel{t:TypeId}{z:V}(h:zHI P t=some z)(w:World):∃zv,(zeroValue t).run P w=.ok zv w∧∀φ:Phi,VR φ z zv:=by
 unfold zHI at h
 split at h
 ·rename_i i hi
  split at h
  ·rename_i zv hz
   exact⟨zv,by simp[zeroValue,run_typeInfo w hi,hz],fun φ=>zDS h⟩
  ·cases h
 ·cases h
theorem sim_lookup(h:Rel P φ H w){t:TypeId}{m k:V}{mv kv:Value}{ok:Bool}(hm:VR φ m mv)(hk:VR φ k kv)(hr0:zt H (wn P H t m k ok)=.ok v H'):
  Sim P φ H w (do pure (.value (←Instr.lookup t mv kv ok))) v H':=by
 obtain⟨hr,rfl⟩:=yZ hr0
 clear hr0
 unfold wn at hr
 cases ht:tyOf P t with
 |map kt et=>
  rw[ht]at hr
  obtain⟨g1,g2,g3⟩:=zDP ht
  obtain⟨h1,h2⟩:=zH hr (by simp)
  obtain⟨es,h3,h4⟩:=zP (no:=none) h2 (by simp)
  obtain⟨r,h5,h6⟩:=zP (no:=none) h4 (by simp)
  obtain⟨rs,hE,hno,hyes⟩:∃rs:Array MapEntry,EntsR φ es rs.toList∧
    (∀zv,(Instr.checkKey rs.isEmpty 10000 kt kv).run P w=.ok () w→(Instr.findKey kt kv rs.toList).run P w=.ok none w→(zeroValue et).run P w=.ok zv w→
     (Instr.lookup t mv kv ok).run P w=.ok (if ok then .tuple #[zv,.bool false]else zv) w)∧
    (∀j u,(Instr.checkKey rs.isEmpty 10000 kt kv).run P w=.ok () w→(Instr.findKey kt kv rs.toList).run P w=.ok (some (j,u)) w→
     (Instr.lookup t mv kv ok).run P w=.ok (if ok then .tuple #[u,.bool true]else u) w):=by
   rcases mapEs_rel h hm h3 with ⟨rfl,rfl⟩|⟨r,rs,c,rfl,h7,h8⟩
   ·refine⟨#[],.nil,fun zv a1 a2 a3=>?_,fun j u a1 a2=>?_⟩
    ·simp only[Instr.lookup,Sem.run_bind,run_underlying g1,Result.andThen_ok,Sem.run_pure,a1,a2,a3]
    ·simp only[Instr.lookup,Sem.run_bind,run_underlying g1,Result.andThen_ok,Sem.run_pure,a1,a2]
   ·refine⟨rs,h8,fun zv a1 a2 a3=>?_,fun j u a1 a2=>?_⟩
    ·simp only[Instr.lookup,Sem.run_bind,run_underlying g1,Result.andThen_ok,Sem.run_pure,h7,a1,a2,a3]
    ·simp only[Instr.lookup,Sem.run_bind,run_underlying g1,Result.andThen_ok,Sem.run_pure,h7,a1,a2]
  have hck:=keyN_rel (P:=P) rs.isEmpty 10 (show keyN P 10 kt k=true from h1) hk 10000 (by omega) w
  obtain⟨o,h7,h8⟩:=zGx g2 hk w hE h5
  have key:∀(u:Value) (is:Bool) (uu:V),VR φ uu u→v=zEb ok uu is→(Instr.lookup t mv kv ok).run P w=.ok (if ok then .tuple #[u,.bool is]else u) w→
    Sim P φ H' w (do pure (.value (←Instr.lookup t mv kv ok))) v H':=by
   rintro u is uu hu rfl hrun
   refine Sim.pure h hrun ?_
   cases ok with
   |true=>exact .tup _ _ (.cons _ _ _ _ hu (.cons _ _ _ _ (.bool is) .nil))
   |false=>exact hu
  cases r with
  |none=>
   cases o with
   |some _=>exact h8.elim
   |none=>
    obtain⟨z,h9,h10⟩:=zP (no:=none) (show opt none (fun z=>some (zEb ok z false)) (zHI P et)=some v from h6) (by simp)
    cases h10
    obtain⟨zv,z1,z2⟩:=zeroV_rel h9 w
    exact key zv false z (z2 φ) rfl (hno zv hck h7 z1)
  |some r=>
   obtain⟨i,key',val'⟩:=r
   cases o with
   |none=>exact h8.elim
   |some o=>
    obtain⟨j,u⟩:=o
    obtain⟨rfl,_,e,m',q3,q4,q5,q6,q7,q8,q9⟩:=h8
    cases(show some (zEb ok val' true)=some v from h6)
    exact key u true val' q9 rfl (hyes i u hck h7)
 |_=>rw[ht]at hr;cases hr
theorem zFQ{x y:V}{a b:Value}(h:zGa x y=some true)(ha:VR φ x a)(hb:VR φ y b)(n:Nat):Instr.sameBits n a b=true:=by
 cases x with
 |bool p=>
  obtain⟨q,rfl,h1⟩:=zBU (no:=none) h (by simp)
  cases ha;cases hb;cases n<;>cases p<;>cases q<;>first|rfl|cases h1
 |int k p=>
  obtain⟨k',q,rfl,h1⟩:=wh (no:=none) h (by simp)
  obtain⟨h2,h3⟩:=zH h1 (by simp)
  cases wI h2
  have h4:ieq p q=true:=by simpa using h3
  rw[zAT]at h4
  cases ha;cases hb;cases n<;>simpa[Instr.sameBits]using h4
 |str p=>
  obtain⟨q,rfl,h1⟩:=zAm (no:=none) h (by simp)
  have h2:zDg p q=true:=by simpa using h1
  cases ha;cases hb
  rw[zEU,zEi,←beq_toListBytes]at h2
  cases n<;>simpa[Instr.sameBits]using h2
 |_=>cases h
theorem plainEqL_same{x:V}{as:List Value}(ha:LR φ x as):∀{y:V} {bs:List Value},LR φ y bs→zFx x y=true→∀n:Nat,as.length=bs.length∧(as.zip bs).all (fun(x,y)=>Instr.sameBits n x y)=true:=by
 induction as generalizing x with
 |nil=>
  intro y bs hb h n
  cases ha
  rcases za (no:=false) (show zu false true (fun _ _=>false) y=true from h) (by simp)with ⟨rfl,_⟩|⟨_,_,rfl,h1⟩
  ·cases hb;exact⟨rfl,rfl⟩
  ·cases h1
 |cons a as ih=>
  intro y bs hb h n
  cases ha with
  |cons x l _ _ h1 h2=>
   rcases za (no:=false) (show zu false false (fun z m=>opt false (fun b=>cond b (zFx l m) false) (zGa x z)) y=true from h) (by simp)with ⟨_,h3⟩|⟨z,m,rfl,h3⟩
   ·cases h3
   ·obtain⟨b,h4,h5⟩:=zP (no:=false) h3 (by simp)
    obtain⟨rfl,h6⟩:=zH h5 (by simp)
    cases hb with
    |cons _ _ _ _ h7 h8=>
     obtain⟨g1,g2⟩:=ih h2 h8 h6 n
     refine⟨by simp[g1],?_⟩
     simp[zFQ h4 h1 h7 n]
     simpa using g2
theorem sameV_same{x y:V}{a b:Value}(h:sameV x y=true)(ha:VR φ x a)(hb:VR φ y b)(n:Nat):Instr.sameBits (n+1) a b=true:=by
 unfold sameV at h
 cases hp:zGa x y with
 |some c=>rw[hp]at h;cases(show c=true from h);exact zFQ hp ha hb _
 |none=>
  rw[hp]at h
  obtain⟨l,rfl,h1⟩:=wS (no:=false) (show zCo false (fun a=>zCo false (fun b=>zFx a b) y) x=true from h) (by simp)
  obtain⟨m,rfl,h2⟩:=wS (no:=false) h1 (by simp)
  cases ha with
  |agg _ cs hc=>
   cases hb with
   |agg _ ds hd=>
    obtain⟨g1,g2⟩:=plainEqL_same hc hd h2 n
    simp only[Instr.sameBits,Bool.and_eq_true,beq_iff_eq]
    exact⟨by simpa using g1,g2⟩
theorem EntsR.push{es:List Ent}{rs:List MapEntry}(h:EntsR φ es rs){k v:V}{c:Nat}{e:MapEntry}(hk:VR φ k e.key)(hv:VR φ v e.val):EntsR φ (es++[⟨k,v,c⟩]) (rs++[e]):=by
 induction h with
 |nil=>exact .cons _ _ _ _ hk hv .nil
 |cons a b as bs h1 h2 _ ih=>exact .cons _ _ _ _ h1 h2 ih
theorem setEnt_zero(k v:V)(e:Ent)(es:List Ent):zCv k v (e::es) 0=⟨k,v,e.born⟩::es:=rfl
theorem setEnt_succ(k v:V)(e:Ent)(es:List Ent)(n:Nat):zCv k v (e::es) (n+1)=e::zCv k v es n:=rfl
theorem EntsR.modify{es:List Ent}{rs:List MapEntry}(h:EntsR φ es rs){k v:V}{kv vv:Value}(hk:VR φ k kv)(hv:VR φ v vv):∀i:Nat,
  EntsR φ (zCv k v es i) (rs.modify i fun e=>{e with key:=kv,val:=vv}):=by
 induction h with
 |nil=>intro i;cases i<;>exact .nil
 |cons a b as bs h1 h2 h3 ih=>
  intro i
  cases i with
  |zero=>rw[setEnt_zero,List.modify_zero_cons];exact .cons _ _ _ _ hk hv h3
  |succ i=>rw[setEnt_succ,List.modify_succ_cons];exact .cons _ _ _ _ h1 h2 (ih i)
theorem sim_mapUpdate(h:Rel P φ H w){t:TypeId}{m k x:V}{mv kv xv:Value}(hm:VR φ m mv)(hk:VR φ k kv)(hx:VR φ x xv)(hr0:zEK (wV P t H m k x)=.ok v H'):
  Sim P φ H w (do Instr.mapUpdate t mv kv xv;Pure.pure Next.skip) v H':=by
 obtain⟨hr,rfl⟩:=skip1_ok hr0
 unfold wV at hr
 cases ht:tyOf P t with
 |map kt et=>
  rw[ht]at hr
  obtain⟨g1,g2,g3⟩:=zDP ht
  obtain⟨h1,h2⟩:=zH hr (by simp)
  rcases onMap_ok (no:=none) h2 (by simp)with ⟨b,rfl,h3⟩|⟨_,h3⟩
  ·obtain⟨es,c,h4,h5⟩:=onMapB_ok h3
   cases hm with
   |map _ l hl=>
    obtain⟨rs,c',h6,h6',h7⟩:=zHh h hl h4
    obtain⟨r,h8,h9⟩:=zP (no:=none) h5 (by simp)
    obtain⟨o,h10,h11⟩:=zGx g2 hk w h7 h8
    have hck:=keyN_rel (P:=P) false 10 (show keyN P 10 kt k=true from h1) hk 10000 (by omega) w
    cases r with
    |none=>
     cases o with
     |some _=>exact h11.elim
     |none=>
      have hs:H.set b (.map (es++[⟨k,x,c⟩]) (Nat.succ c))=some H':=h9
      obtain⟨q1,q2⟩:=Rel.setObj (y:=.map (es++[⟨k,x,c⟩]) (Nat.succ c)) (o:=.map (rs.push {key:=kv,val:=xv,born:=c'}) (c'+1)) h hl h4 trivial trivial hs ⟨_,_,rfl,by rw[Array.toList_push];exact h7.push hk hx⟩
      refine Sim.skip ?_ q1 q2
      simp only[Instr.mapUpdate,Sem.run_bind,run_underlying g1,Result.andThen_ok,h6,hck,h10]
      exact zDQ h6' (by simp)
    |some r=>
     obtain⟨i,key',val'⟩:=r
     cases o with
     |none=>exact h11.elim
     |some o=>
      obtain⟨j,u⟩:=o
      obtain⟨rfl,_,e,m',q3,q4,q5,q6,q7,q8,q9⟩:=h11
      obtain⟨hsame,h12⟩:=zH (show cond (sameV key' k) (H.set b (.map (zCv k x es i) c)) none=some H' from h9) (by simp)
      obtain⟨q1,q2⟩:=Rel.setObj (y:=.map (zCv k x es i) c) (o:=.map (rs.modify i fun e=>{e with key:=kv,val:=xv}) c') h hl h4 trivial trivial h12 ⟨_,_,rfl,by rw[Array.toList_modify];exact h7.modify hk hx i⟩
      refine Sim.skip ?_ q1 q2
      have hold:((rs[i]?).map (·.key)).getD kv=m'.key:=by
       have:rs[i]? =some m':=by simpa using q4
       rw[this];rfl
      have hstay:(Instr.keyThatStays m'.key kv).run P w=.ok kv w:=by
       simp only[Instr.keyThatStays,sameV_same hsame q8 hk 9999,if_true,Sem.run_pure]
      simp only[Instr.mapUpdate,Sem.run_bind,run_underlying g1,Result.andThen_ok,h6,hck,h10,hold,hstay]
      exact zDQ h6' (by simp)
  ·cases h3
 |_=>rw[ht]at hr;cases hr
end Vam
