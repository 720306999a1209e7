import Derived.Test.YthhbfbmfhldbaaaDoorVamT24
set_option linter.unusedVariables false
set_option linter.unusedSimpArgs false
set_option linter.constructorNameAsVariable false
namespace Go.Proofs.YthhbfbmfhldbaaaDoor.locks
open Vam
section
variable {is:FuncId→Bool}{orc:Known}
theorem und_struct{P:Program}{t:TypeId}(n:Nat)(h:(match P.underlying t with|some (.struct fs)=>Nat.beq fs.size n|_=>false)=true):∃fs,P.underlying t=some (.struct fs):=by
 cases hu:P.underlying t with
 |none=>rw[hu]at h;cases h
 |some ty=>rw[hu]at h;cases ty<;>first|exact⟨_,rfl⟩|cases h
theorem u3:Tryd.prog.underlying 3=some (.int .i64):=by kernel_rfl
theorem u22:Tryd.prog.underlying 22=some (.slice 3):=by kernel_rfl
def fts(P:Program)(t:TypeId):List TypeId:=match P.underlying t with|some (.struct fs)=>fs.toList.map (·.type)|_=>[]
theorem f24:fts Tryd.prog 24=[22,3,3,3]:=by kernel_rfl
theorem clq3:Program.cellsOf Tryd.prog 3=1:=by kernel_rfl
theorem zFN{cs:List U}(h:Shp Tryd.prog 3 cs):∃n:Int,cs=[.int .i64 n]:=by
 cases h with
 |int _ k n hu _=>rw[u3]at hu;cases hu;exact⟨n,rfl⟩
 |bool _ _ hu=>rw[u3]at hu;cases hu
 |str _ _ hu=>rw[u3]at hu;cases hu
 |slice _ _ _ hu=>rw[u3]at hu;cases hu
 |struct _ _ _ hu=>rw[u3]at hu;cases hu
 |array _ _ _ _ hu=>rw[u3]at hu;cases hu
theorem shp_fields{P:Program}{t:TypeId}{cs:List U}(h:Shp P t cs)(hne:fts P t≠[]):∃fs:List Field,fs.map (·.type)=fts P t∧ShpF P fs cs:=by
 have no:∀{ty},P.underlying t=some ty→(∀fs,ty≠.struct fs)→False:=fun hu hn=>hne (by unfold fts;rw[hu];split<;>simp_all)
 cases h with
 |struct _ fs _ hu hf=>exact⟨fs.toList,by unfold fts;rw[hu],hf⟩
 |int _ k n hu _=>exact(no hu (by intro fs h;cases h)).elim
 |bool _ _ hu=>exact(no hu (by intro fs h;cases h)).elim
 |str _ _ hu=>exact(no hu (by intro fs h;cases h)).elim
 |slice _ _ _ hu=>exact(no hu (by intro fs h;cases h)).elim
 |array _ _ _ _ hu=>exact(no hu (by intro fs h;cases h)).elim
theorem zDV{P:Program}{fs:List Field}{t:TypeId}{ts:List TypeId}{cs:List U}(h:ShpF P fs cs)(e:fs.map (·.type)=t::ts):∃gs xs ys,cs=xs++ys∧Shp P t xs∧ShpF P gs ys∧gs.map (·.type)=ts:=by
 cases h with
 |nil=>cases e
 |cons f fs xs ys h1 h2=>
  simp only[List.map_cons,List.cons.injEq]at e
  obtain⟨rfl,rfl⟩:=e
  exact⟨fs,xs,ys,rfl,h1,h2,rfl⟩
theorem shpF_nil{P:Program}{fs:List Field}{cs:List U}(h:ShpF P fs cs)(e:fs.map (·.type)=[]):cs=[]:=by
 cases h with
 |nil=>rfl
 |cons=>cases e
theorem shpL_map{P:Program}{e:TypeId}{α:Type}{f:α→List U}{css:List (List U)}(h:ShpL P e css)(k:∀cs,Shp P e cs→∃q,cs=f q):∃l:List α,css=l.map f:=by
 induction css with
 |nil=>exact⟨[],rfl⟩
 |cons cs css ih=>
  cases h with
  |cons _ _ _ h1 h2=>
   obtain⟨q,rfl⟩:=k _ h1
   obtain⟨l,rfl⟩:=ih h2
   exact⟨q::l,rfl⟩
theorem shp_slice{P:Program}{t e:TypeId}{cs:List U}(hu:P.underlying t=some (.slice e))(h:Shp P t cs):∃css,ShpL P e css∧cs=[.lst .ro (P.cellsOf e) (css.map (eU P e))]:=by
 cases h with
 |slice _ e' css hu' hl=>rw[hu]at hu';cases hu';exact⟨css,hl,rfl⟩
 |int _ k n hu' _=>rw[hu]at hu';cases hu'
 |bool _ _ hu'=>rw[hu]at hu';cases hu'
 |str _ _ hu'=>rw[hu]at hu';cases hu'
 |struct _ _ _ hu'=>rw[hu]at hu';cases hu'
 |array _ _ _ _ hu'=>rw[hu]at hu';cases hu'
theorem eu3:∀cs,eU Tryd.prog 3 cs=cs.headD .junk:=by
 intro cs;unfold eU;rw[u3]
theorem map_ints{F:List U→U}(he:∀cs,F cs=cs.headD .junk)(l:List Int):(l.map fun n:Int=>[U.int .i64 n]).map F=zF l:=by
 rw[List.map_map]
 exact List.map_congr_left fun q _=>he _
theorem shp_ints{cs:List U}(h:Shp Tryd.prog 22 cs):∃l:List Int,cs=[.lst .ro 1 (zF l)]:=by
 obtain⟨css,hl,rfl⟩:=shp_slice u22 h
 obtain⟨l,rfl⟩:=shpL_map (f:=fun n:Int=>[.int .i64 n]) hl fun cs hcs=>zFN hcs
 refine⟨l,?_⟩
 rw[clq3,map_ints eu3]
theorem shp_ln{cs:List U}(h:Shp Tryd.prog 24 cs):∃l:Ln,cs=l.cs:=by
 obtain⟨fs,e,hf⟩:=shp_fields h (by rw[f24];simp)
 rw[f24]at e
 obtain⟨g1,a1,b1,rfl,k1,r1,e1⟩:=zDV hf e
 obtain⟨g2,a2,b2,rfl,k2,r2,e2⟩:=zDV r1 e1
 obtain⟨g3,a3,b3,rfl,k3,r3,e3⟩:=zDV r2 e2
 obtain⟨g4,a4,b4,rfl,k4,r4,e4⟩:=zDV r3 e3
 obtain rfl:=shpF_nil r4 e4
 obtain⟨sl,rfl⟩:=shp_ints k1
 obtain⟨lf,rfl⟩:=zFN k2
 obtain⟨rt,rfl⟩:=zFN k3
 obtain⟨rn,rfl⟩:=zFN k4
 exact⟨⟨sl,lf,rt,rn⟩,rfl⟩
theorem und24:∃fs,Tryd.prog.underlying 24=some (.struct fs):=und_struct (P:=Tryd.prog) (t:=24) 4 (by kernel_rfl)
theorem arg_ln{u:U}(h:∃cs,u=.agg cs∧Shp Tryd.prog 24 cs):∃l:Ln,u=l.u:=by
 obtain⟨cs,rfl,h⟩:=h
 obtain⟨l,rfl⟩:=shp_ln h
 exact⟨l,rfl⟩
end
section
variable {is:FuncId→Bool}{orc:Known}
theorem u62:Tryd.prog.underlying 62=some (.array 3 3):=by kernel_rfl
theorem shpL_ints{css:List (List U)}(h:ShpL Tryd.prog 3 css):∃l:List Int,css=l.map fun n:Int=>[U.int .i64 n]:=shpL_map (f:=fun n:Int=>[.int .i64 n]) h fun cs hcs=>zFN hcs
theorem shp_arr{t n:Nat}(hu:Tryd.prog.underlying t=some (.array n 3)){cs:List U}(h:Shp Tryd.prog t cs):∃l:List Int,l.length=n∧cs=(l.map fun n:Int=>[U.int .i64 n]).flatten:=by
 cases h with
 |array _ n e css hu' hl hn=>
  rw[hu]at hu';cases hu'
  obtain⟨l,rfl⟩:=shpL_ints hl
  exact⟨l,by simpa using hn,rfl⟩
 |int _ k n hu' _=>rw[hu]at hu';cases hu'
 |bool _ _ hu'=>rw[hu]at hu';cases hu'
 |str _ _ hu'=>rw[hu]at hu';cases hu'
 |slice _ _ _ hu'=>rw[hu]at hu';cases hu'
 |struct _ _ _ hu'=>rw[hu]at hu';cases hu'
theorem arg_three{u:U}(h:∃cs,u=.agg cs∧Shp Tryd.prog 62 cs):∃a b c:Int,u=.agg [.int .i64 a,.int .i64 b,.int .i64 c]:=by
 obtain⟨cs,rfl,h⟩:=h
 obtain⟨l,hl,rfl⟩:=shp_arr u62 h
 match l,hl with
 |[a,b,c],_=>exact⟨a,b,c,rfl⟩
end
section
variable {is:FuncId→Bool}{orc:Known}
theorem ret9_all(hi:Off is)(r26:RetP Tryd.prog is orc 26 [] (.bool true)):∀us,ShpAs Tryd.prog [24,62] us→RetP Tryd.prog is orc 9 us (.bool true):=by
 intro us h
 cases h with
 |cons _ _ u us h1 h=>cases h with
 |cons _ _ x us h3 h=>
 cases h
 obtain⟨fs,hu⟩:=und24
 unfold ShpA at h1 h3
 rw[hu]at h1
 rw[u62]at h3
 obtain⟨l,rfl⟩:=arg_ln h1
 obtain⟨m,n,k,rfl⟩:=arg_three h3
 exact ret9 hi l m n k r26
end
end Go.Proofs.YthhbfbmfhldbaaaDoor.locks
