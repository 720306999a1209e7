import Derived.Test.YtlknfhjfkcboiaaDoorVamT19
set_option linter.unusedVariables false
set_option linter.unusedSimpArgs false
set_option linter.constructorNameAsVariable false
namespace Go.Proofs.YtlknfhjfkcboiaaDoor.night
open Vam
section
variable {is:FuncId→Bool}{orc:Known}
end
section
variable {is:FuncId→Bool}{orc:Known}
theorem zGY{P:Program}{t:TypeId}(n:Nat)(h:(match P.underlying t with|some (.struct fs)=>Nat.beq fs.size n|_=>false)=true):∃fs,P.underlying t=some (.struct fs):=by
 cases hu:P.underlying t with
 |none=>rw[hu]at h;cases h
 |some ty=>rw[hu]at h;cases ty<;>first|exact⟨_,rfl⟩|cases h
theorem u3:Tryd.prog.underlying 3=some (.int .i64):=by kernel_rfl
theorem u4:Tryd.prog.underlying 4=some .bool:=by kernel_rfl
theorem u22:Tryd.prog.underlying 22=some (.slice 3):=by kernel_rfl
theorem u23:Tryd.prog.underlying 23=some (.slice 50):=by kernel_rfl
def fts(P:Program)(t:TypeId):List TypeId:=match P.underlying t with|some (.struct fs)=>fs.toList.map (·.type)|_=>[]
theorem f25:fts Tryd.prog 25=[3,22,22,23,3,22,3,3,3,22]:=by kernel_rfl
theorem f50:fts Tryd.prog 50=[3,3,48,4]:=by kernel_rfl
theorem f48:fts Tryd.prog 48=[3,3]:=by kernel_rfl
theorem clq50:Program.cellsOf Tryd.prog 50=5:=by kernel_rfl
theorem clq3:Program.cellsOf Tryd.prog 3=1:=by kernel_rfl
theorem zBZ{cs:List U}(h:Shp Tryd.prog 3 cs):∃n:Int,cs=[.int .i64 n]:=by
 cases h with
 |int _ k n hu _=>rw[u3]at hu;cases hu;exact⟨n,rfl⟩
 |bool _ _ hu=>rw[u3]at hu;cases hu
 |str _ _ hu=>rw[u3]at hu;cases hu
 |slice _ _ _ hu=>rw[u3]at hu;cases hu
 |struct _ _ _ hu=>rw[u3]at hu;cases hu
 |array _ _ _ _ hu=>rw[u3]at hu;cases hu
theorem shp_bool{cs:List U}(h:Shp Tryd.prog 4 cs):∃n:Bool,cs=[.bool n]:=by
 cases h with
 |int _ k n hu _=>rw[u4]at hu;cases hu
 |bool _ n hu=>exact⟨n,rfl⟩
 |str _ _ hu=>rw[u4]at hu;cases hu
 |slice _ _ _ hu=>rw[u4]at hu;cases hu
 |struct _ _ _ hu=>rw[u4]at hu;cases hu
 |array _ _ _ _ hu=>rw[u4]at hu;cases hu
theorem zEM{P:Program}{t:TypeId}{cs:List U}(h:Shp P t cs)(hne:fts P t≠[]):∃fs:List Field,fs.map (·.type)=fts P t∧ShpF P fs cs:=by
 have no:∀{ty},P.underlying t=some ty→(∀fs,ty≠.struct fs)→False:=fun hu hn=>hne (by unfold fts;rw[hu];split<;>simp_all)
 cases h with
 |struct _ fs _ hu hf=>exact⟨fs.toList,by unfold fts;rw[hu],hf⟩
 |int _ k n hu _=>exact(no hu (by intro fs h;cases h)).elim
 |bool _ _ hu=>exact(no hu (by intro fs h;cases h)).elim
 |str _ _ hu=>exact(no hu (by intro fs h;cases h)).elim
 |slice _ _ _ hu=>exact(no hu (by intro fs h;cases h)).elim
 |array _ _ _ _ hu=>exact(no hu (by intro fs h;cases h)).elim
theorem yb{P:Program}{fs:List Field}{t:TypeId}{ts:List TypeId}{cs:List U}(h:ShpF P fs cs)(e:fs.map (·.type)=t::ts):∃gs xs ys,cs=xs++ys∧Shp P t xs∧ShpF P gs ys∧gs.map (·.type)=ts:=by
 cases h with
 |nil=>cases e
 |cons f fs xs ys h1 h2=>
  simp only[List.map_cons,List.cons.injEq]at e
  obtain⟨rfl,rfl⟩:=e
  exact⟨fs,xs,ys,rfl,h1,h2,rfl⟩
theorem shpF_nil{P:Program}{fs:List Field}{cs:List U}(h:ShpF P fs cs)(e:fs.map (·.type)=[]):cs=[]:=by
 cases h with
 |nil=>rfl
 |cons=>cases e
theorem shp_span{cs:List U}(h:Shp Tryd.prog 48 cs):∃a b:Int,cs=[.int .i64 a,.int .i64 b]:=by
 obtain⟨fs,e,hf⟩:=zEM h (by rw[f48];simp)
 rw[f48]at e
 obtain⟨g1,a1,b1,rfl,k1,r1,e1⟩:=yb hf e
 obtain⟨g2,a2,b2,rfl,k2,r2,e2⟩:=yb r1 e1
 obtain rfl:=shpF_nil r2 e2
 obtain⟨x,rfl⟩:=zBZ k1
 obtain⟨y,rfl⟩:=zBZ k2
 exact⟨x,y,rfl⟩
theorem shpL_map{P:Program}{e:TypeId}{α:Type}{f:α→List U}{css:List (List U)}(h:ShpL P e css)(k:∀cs,Shp P e cs→∃q,cs=f q):∃l:List α,css=l.map f:=by
 induction css with
 |nil=>exact⟨[],rfl⟩
 |cons cs css ih=>
  cases h with
  |cons _ _ _ h1 h2=>
   obtain⟨q,rfl⟩:=k _ h1
   obtain⟨l,rfl⟩:=ih h2
   exact⟨q::l,rfl⟩
theorem shp_slice{P:Program}{t e:TypeId}{cs:List U}(hu:P.underlying t=some (.slice e))(h:Shp P t cs):∃css,ShpL P e css∧cs=[.lst .ro (P.cellsOf e) (css.map (eU P e))]:=by
 cases h with
 |slice _ e' css hu' hl=>rw[hu]at hu';cases hu';exact⟨css,hl,rfl⟩
 |int _ k n hu' _=>rw[hu]at hu';cases hu'
 |bool _ _ hu'=>rw[hu]at hu';cases hu'
 |str _ _ hu'=>rw[hu]at hu';cases hu'
 |struct _ _ _ hu'=>rw[hu]at hu';cases hu'
 |array _ _ _ _ hu'=>rw[hu]at hu';cases hu'
theorem eu50:∀cs,eU Tryd.prog 50 cs=.agg cs:=by
 obtain⟨fs,h⟩:=zGY (P:=Tryd.prog) (t:=50) 4 (by kernel_rfl)
 intro cs;unfold eU;rw[h]
theorem eu3:∀cs,eU Tryd.prog 3 cs=cs.headD .junk:=by
 intro cs;unfold eU;rw[u3]
theorem map_ints{F:List U→U}(he:∀cs,F cs=cs.headD .junk)(l:List Int):(l.map fun n:Int=>[U.int .i64 n]).map F=zE l:=by
 rw[List.map_map]
 exact List.map_congr_left fun q _=>he _
theorem zDk{cs:List U}(h:Shp Tryd.prog 22 cs):∃l:List Int,cs=[.lst .ro 1 (zE l)]:=by
 obtain⟨css,hl,rfl⟩:=shp_slice u22 h
 obtain⟨l,rfl⟩:=shpL_map (f:=fun n:Int=>[.int .i64 n]) hl fun cs hcs=>zBZ hcs
 refine⟨l,?_⟩
 rw[clq3,map_ints eu3]
theorem shp_scene{cs:List U}(h:Shp Tryd.prog 50 cs):∃q:Sc,cs=q.cs:=by
 obtain⟨fs,e,hf⟩:=zEM h (by rw[f50];simp)
 rw[f50]at e
 obtain⟨g1,a1,b1,rfl,k1,r1,e1⟩:=yb hf e
 obtain⟨g2,a2,b2,rfl,k2,r2,e2⟩:=yb r1 e1
 obtain⟨g3,a3,b3,rfl,k3,r3,e3⟩:=yb r2 e2
 obtain⟨g4,a4,b4,rfl,k4,r4,e4⟩:=yb r3 e3
 obtain rfl:=shpF_nil r4 e4
 obtain⟨x,rfl⟩:=zBZ k1
 obtain⟨y,rfl⟩:=zBZ k2
 obtain⟨lo,up,rfl⟩:=shp_span k3
 obtain⟨m,rfl⟩:=shp_bool k4
 exact⟨⟨x,y,lo,up,m⟩,rfl⟩
theorem map_scs{F:List U→U}(he:∀cs,F cs=.agg cs)(l:List Sc):(l.map fun q:Sc=>q.cs).map F=scsU l:=by
 rw[List.map_map]
 exact List.map_congr_left fun q _=>he _
theorem shp_scenes{cs:List U}(h:Shp Tryd.prog 23 cs):∃l:List Sc,cs=[.lst .ro 5 (scsU l)]:=by
 obtain⟨css,hl,rfl⟩:=shp_slice u23 h
 obtain⟨l,rfl⟩:=shpL_map (f:=fun q:Sc=>q.cs) hl fun cs hcs=>shp_scene hcs
 refine⟨l,?_⟩
 rw[clq50,map_scs eu50]
theorem shp_bk{cs:List U}(h:Shp Tryd.prog 25 cs):∃b:Bk,cs=b.cs:=by
 obtain⟨fs,e,hf⟩:=zEM h (by rw[f25];simp)
 rw[f25]at e
 obtain⟨g1,a1,b1,rfl,k1,r1,e1⟩:=yb hf e
 obtain⟨g2,a2,b2,rfl,k2,r2,e2⟩:=yb r1 e1
 obtain⟨g3,a3,b3,rfl,k3,r3,e3⟩:=yb r2 e2
 obtain⟨g4,a4,b4,rfl,k4,r4,e4⟩:=yb r3 e3
 obtain⟨g5,a5,b5,rfl,k5,r5,e5⟩:=yb r4 e4
 obtain⟨g6,a6,b6,rfl,k6,r6,e6⟩:=yb r5 e5
 obtain⟨g7,a7,b7,rfl,k7,r7,e7⟩:=yb r6 e6
 obtain⟨g8,a8,b8,rfl,k8,r8,e8⟩:=yb r7 e7
 obtain⟨g9,a9,b9,rfl,k9,r9,e9⟩:=yb r8 e8
 obtain⟨g10,a10,b10,rfl,k10,r10,e10⟩:=yb r9 e9
 obtain rfl:=shpF_nil r10 e10
 obtain⟨bg,rfl⟩:=zBZ k1
 obtain⟨opens,rfl⟩:=zDk k2
 obtain⟨ends,rfl⟩:=zDk k3
 obtain⟨scenes,rfl⟩:=shp_scenes k4
 obtain⟨fee,rfl⟩:=zBZ k5
 obtain⟨loads,rfl⟩:=zDk k6
 obtain⟨cart,rfl⟩:=zBZ k7
 obtain⟨cost,rfl⟩:=zBZ k8
 obtain⟨feast,rfl⟩:=zBZ k9
 obtain⟨shares,rfl⟩:=zDk k10
 exact⟨⟨bg,opens,ends,scenes,fee,loads,cart,cost,feast,shares⟩,rfl⟩
theorem und25:∃fs,Tryd.prog.underlying 25=some (.struct fs):=zGY (P:=Tryd.prog) (t:=25) 10 (by kernel_rfl)
theorem arg_bk{u:U}(h:∃cs,u=.agg cs∧Shp Tryd.prog 25 cs):∃b:Bk,u=b.u:=by
 obtain⟨cs,rfl,h⟩:=h
 obtain⟨b,rfl⟩:=shp_bk h
 exact⟨b,rfl⟩
theorem arg_ints{u:U}(h:Shp Tryd.prog 22 [u]):∃l:List Int,u=.lst .ro 1 (zE l):=by
 obtain⟨l,e⟩:=zDk h
 cases e
 exact⟨l,rfl⟩
end
section
variable {is:FuncId→Bool}{orc:Known}
end
end Go.Proofs.YtlknfhjfkcboiaaDoor.night
