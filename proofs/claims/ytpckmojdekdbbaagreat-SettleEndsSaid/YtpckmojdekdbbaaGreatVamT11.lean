import Derived.Test.YtpckmojdekdbbaaGreatVamT10
set_option linter.unusedVariables false
set_option linter.unusedSimpArgs false
set_option linter.constructorNameAsVariable false
namespace Go.Proofs.YtpckmojdekdbbaaGreat.settles
open Vam
variable {is:FuncId→Bool}{orc:Known}
theorem zBt{P:Program}{t:TypeId}(n:Nat)(h:(match P.underlying t with|some (.struct fs)=>Nat.beq fs.size n|_=>false)=true):∃fs,P.underlying t=some (.struct fs):=by
 cases hu:P.underlying t with
 |none=>rw[hu]at h;cases h
 |some ty=>rw[hu]at h;cases ty<;>first|exact⟨_,rfl⟩|cases h
theorem u3:Tryz.prog.underlying 3=some (.int .i64):=by kernel_rfl
theorem u4:Tryz.prog.underlying 4=some .bool:=by kernel_rfl
theorem u22:Tryz.prog.underlying 22=some (.slice 62):=by kernel_rfl
theorem u23:Tryz.prog.underlying 23=some (.slice 35):=by kernel_rfl
theorem u24:Tryz.prog.underlying 24=some (.slice 64):=by kernel_rfl
theorem u25:Tryz.prog.underlying 25=some (.slice 68):=by kernel_rfl
theorem u29:Tryz.prog.underlying 29=some (.array 2 3):=by kernel_rfl
def fts(P:Program)(t:TypeId):List TypeId:=match P.underlying t with|some (.struct fs)=>fs.toList.map (·.type)|_=>[]
theorem f27:fts Tryz.prog 27=[3,22,23,24,25]:=by kernel_rfl
theorem f62:fts Tryz.prog 62=[35,35,4,3,3]:=by kernel_rfl
theorem f35:fts Tryz.prog 35=[3,3]:=by kernel_rfl
theorem f64:fts Tryz.prog 64=[3,3,35]:=by kernel_rfl
theorem f68:fts Tryz.prog 68=[3,3,3,3]:=by kernel_rfl
theorem und62:∃fs,Tryz.prog.underlying 62=some (.struct fs):=zBt (P:=Tryz.prog) (t:=62) 5 (by kernel_rfl)
theorem und35:∃fs,Tryz.prog.underlying 35=some (.struct fs):=zBt (P:=Tryz.prog) (t:=35) 2 (by kernel_rfl)
theorem und64:∃fs,Tryz.prog.underlying 64=some (.struct fs):=zBt (P:=Tryz.prog) (t:=64) 3 (by kernel_rfl)
theorem und68:∃fs,Tryz.prog.underlying 68=some (.struct fs):=zBt (P:=Tryz.prog) (t:=68) 4 (by kernel_rfl)
theorem und27:∃fs,Tryz.prog.underlying 27=some (.struct fs):=zBt (P:=Tryz.prog) (t:=27) 5 (by kernel_rfl)
theorem clq62:Program.cellsOf Tryz.prog 62=7:=by kernel_rfl
theorem clq35:Program.cellsOf Tryz.prog 35=2:=by kernel_rfl
theorem clq64:Program.cellsOf Tryz.prog 64=4:=by kernel_rfl
theorem clq68:Program.cellsOf Tryz.prog 68=4:=by kernel_rfl
theorem eU_struct{P:Program}{t:TypeId}(h:∃fs,P.underlying t=some (.struct fs))(cs:List U):eU P t cs=.agg cs:=by
 obtain⟨fs,h⟩:=h
 unfold eU;rw[h]
theorem zBA{cs:List U}(h:Shp Tryz.prog 3 cs):∃n:Int,cs=[.int .i64 n]:=by
 cases h with
 |int _ k n hu _=>rw[u3]at hu;cases hu;exact⟨n,rfl⟩
 |bool _ _ hu=>rw[u3]at hu;cases hu
 |str _ _ hu=>rw[u3]at hu;cases hu
 |slice _ _ _ hu=>rw[u3]at hu;cases hu
 |struct _ _ _ hu=>rw[u3]at hu;cases hu
 |array _ _ _ _ hu=>rw[u3]at hu;cases hu
theorem shp_bool{cs:List U}(h:Shp Tryz.prog 4 cs):∃b:Bool,cs=[.bool b]:=by
 cases h with
 |bool _ b hu=>exact⟨b,rfl⟩
 |int _ _ _ hu=>rw[u4]at hu;cases hu
 |str _ _ hu=>rw[u4]at hu;cases hu
 |slice _ _ _ hu=>rw[u4]at hu;cases hu
 |struct _ _ _ hu=>rw[u4]at hu;cases hu
 |array _ _ _ _ hu=>rw[u4]at hu;cases hu
theorem zBx{P:Program}{t:TypeId}{cs:List U}(h:Shp P t cs)(hne:fts P t≠[]):∃fs:List Field,fs.map (·.type)=fts P t∧ShpF P fs cs:=by
 have no:∀{ty},P.underlying t=some ty→(∀fs,ty≠.struct fs)→False:=fun hu hn=>hne (by unfold fts;rw[hu];split<;>simp_all)
 cases h with
 |struct _ fs _ hu hf=>exact⟨fs.toList,by unfold fts;rw[hu],hf⟩
 |int _ k n hu _=>exact(no hu (by intro fs h;cases h)).elim
 |bool _ _ hu=>exact(no hu (by intro fs h;cases h)).elim
 |str _ _ hu=>exact(no hu (by intro fs h;cases h)).elim
 |slice _ _ _ hu=>exact(no hu (by intro fs h;cases h)).elim
 |array _ _ _ _ hu=>exact(no hu (by intro fs h;cases h)).elim
theorem yb{P:Program}{fs:List Field}{t:TypeId}{ts:List TypeId}{cs:List U}(h:ShpF P fs cs)(e:fs.map (·.type)=t::ts):∃gs xs ys,cs=xs++ys∧Shp P t xs∧ShpF P gs ys∧gs.map (·.type)=ts:=by
 cases h with
 |nil=>cases e
 |cons f fs xs ys h1 h2=>
  simp only[List.map_cons,List.cons.injEq]at e
  obtain⟨rfl,rfl⟩:=e
  exact⟨fs,xs,ys,rfl,h1,h2,rfl⟩
theorem zEL{P:Program}{fs:List Field}{cs:List U}(h:ShpF P fs cs)(e:fs.map (·.type)=[]):cs=[]:=by
 cases h with
 |nil=>rfl
 |cons=>cases e
theorem shpL_map{P:Program}{e:TypeId}{α:Type}{f:α→List U}{css:List (List U)}(h:ShpL P e css)(k:∀cs,Shp P e cs→∃q,cs=f q):∃l:List α,css=l.map f:=by
 induction css with
 |nil=>exact⟨[],rfl⟩
 |cons cs css ih=>
  cases h with
  |cons _ _ _ h1 h2=>
   obtain⟨q,rfl⟩:=k _ h1
   obtain⟨l,rfl⟩:=ih h2
   exact⟨q::l,rfl⟩
theorem shp_slice{P:Program}{t e:TypeId}{cs:List U}(hu:P.underlying t=some (.slice e))(h:Shp P t cs):∃css,ShpL P e css∧cs=[.lst .ro (P.cellsOf e) (css.map (eU P e))]:=by
 cases h with
 |slice _ e' css hu' hl=>rw[hu]at hu';cases hu';exact⟨css,hl,rfl⟩
 |int _ k n hu' _=>rw[hu]at hu';cases hu'
 |bool _ _ hu'=>rw[hu]at hu';cases hu'
 |str _ _ hu'=>rw[hu]at hu';cases hu'
 |struct _ _ _ hu'=>rw[hu]at hu';cases hu'
 |array _ _ _ _ hu'=>rw[hu]at hu';cases hu'
theorem shp_sp{cs:List U}(h:Shp Tryz.prog 35 cs):∃x:Sp,cs=[.int .i64 x.1,.int .i64 x.2]:=by
 obtain⟨fs,e,hf⟩:=zBx h (by rw[f35];simp)
 rw[f35]at e
 obtain⟨g1,a1,b1,rfl,k1,r1,e1⟩:=yb hf e
 obtain⟨g2,a2,b2,rfl,k2,r2,e2⟩:=yb r1 e1
 obtain rfl:=zEL r2 e2
 obtain⟨x,rfl⟩:=zBA k1
 obtain⟨y,rfl⟩:=zBA k2
 exact⟨(x,y),rfl⟩
theorem shp_ky{cs:List U}(h:Shp Tryz.prog 62 cs):∃x:Ky,cs=x.cs:=by
 obtain⟨fs,e,hf⟩:=zBx h (by rw[f62];simp)
 rw[f62]at e
 obtain⟨g1,a1,b1,rfl,k1,r1,e1⟩:=yb hf e
 obtain⟨g2,a2,b2,rfl,k2,r2,e2⟩:=yb r1 e1
 obtain⟨g3,a3,b3,rfl,k3,r3,e3⟩:=yb r2 e2
 obtain⟨g4,a4,b4,rfl,k4,r4,e4⟩:=yb r3 e3
 obtain⟨g5,a5,b5,rfl,k5,r5,e5⟩:=yb r4 e4
 obtain rfl:=zEL r5 e5
 obtain⟨x1,rfl⟩:=shp_sp k1
 obtain⟨x2,rfl⟩:=shp_sp k2
 obtain⟨x3,rfl⟩:=shp_bool k3
 obtain⟨x4,rfl⟩:=zBA k4
 obtain⟨x5,rfl⟩:=zBA k5
 exact⟨⟨x1,x2,x3,x4,x5⟩,rfl⟩
theorem shp_fl{cs:List U}(h:Shp Tryz.prog 64 cs):∃x:Fl,cs=[.int .i64 x.yr,.int .i64 x.ky,.int .i64 x.bs.1,.int .i64 x.bs.2]:=by
 obtain⟨fs,e,hf⟩:=zBx h (by rw[f64];simp)
 rw[f64]at e
 obtain⟨g1,a1,b1,rfl,k1,r1,e1⟩:=yb hf e
 obtain⟨g2,a2,b2,rfl,k2,r2,e2⟩:=yb r1 e1
 obtain⟨g3,a3,b3,rfl,k3,r3,e3⟩:=yb r2 e2
 obtain rfl:=zEL r3 e3
 obtain⟨x1,rfl⟩:=zBA k1
 obtain⟨x2,rfl⟩:=zBA k2
 obtain⟨x3,rfl⟩:=shp_sp k3
 exact⟨⟨x1,x2,x3⟩,rfl⟩
theorem shp_lk{cs:List U}(h:Shp Tryz.prog 68 cs):∃x:Lk,cs=[.int .i64 x.yr,.int .i64 x.ky,.int .i64 x.rd,.int .i64 x.er]:=by
 obtain⟨fs,e,hf⟩:=zBx h (by rw[f68];simp)
 rw[f68]at e
 obtain⟨g1,a1,b1,rfl,k1,r1,e1⟩:=yb hf e
 obtain⟨g2,a2,b2,rfl,k2,r2,e2⟩:=yb r1 e1
 obtain⟨g3,a3,b3,rfl,k3,r3,e3⟩:=yb r2 e2
 obtain⟨g4,a4,b4,rfl,k4,r4,e4⟩:=yb r3 e3
 obtain rfl:=zEL r4 e4
 obtain⟨x1,rfl⟩:=zBA k1
 obtain⟨x2,rfl⟩:=zBA k2
 obtain⟨x3,rfl⟩:=zBA k3
 obtain⟨x4,rfl⟩:=zBA k4
 exact⟨⟨x1,x2,x3,x4⟩,rfl⟩
theorem zFq{P:Program}{t e:TypeId}{n:Nat}{α:Type}{f:α→List U}{F:α→U}(hu:P.underlying t=some (.slice e))(hs:∃fs,P.underlying e=some (.struct fs))(hc:Program.cellsOf P e=n)(k:∀ds,Shp P e ds→∃q,ds=f q)(hF:∀q,F q=.agg (f q)){cs:List U}(h:Shp P t cs):∃l:List α,cs=[.lst .ro n (l.map F)]:=by
 obtain⟨css,hl,rfl⟩:=shp_slice hu h
 obtain⟨l,rfl⟩:=shpL_map hl k
 refine⟨l,?_⟩
 have e1:List.map (eU P e ∘ f) l=List.map F l:=List.map_congr_left fun q _=>by
  rw[hF]
  show eU P e (f q)=.agg (f q)
  exact eU_struct (P:=P) (t:=e) hs (f q)
 rw[hc,List.map_map,e1]
theorem shp_z{cs:List U}(h:Shp Tryz.prog 27 cs):∃z:Zt,cs=z.cs:=by
 obtain⟨fs,e,hf⟩:=zBx h (by rw[f27];simp)
 rw[f27]at e
 obtain⟨g1,a1,b1,rfl,k1,r1,e1⟩:=yb hf e
 obtain⟨g2,a2,b2,rfl,k2,r2,e2⟩:=yb r1 e1
 obtain⟨g3,a3,b3,rfl,k3,r3,e3⟩:=yb r2 e2
 obtain⟨g4,a4,b4,rfl,k4,r4,e4⟩:=yb r3 e3
 obtain⟨g5,a5,b5,rfl,k5,r5,e5⟩:=yb r4 e4
 obtain rfl:=zEL r5 e5
 obtain⟨x1,rfl⟩:=zBA k1
 obtain⟨x2,rfl⟩:=zFq (F:=Ky.u) u22 und62 clq62 (fun _=>shp_ky) (fun _=>rfl) k2
 obtain⟨x3,rfl⟩:=zFq (F:=spU) u23 und35 clq35 (fun _=>shp_sp) (fun _=>rfl) k3
 obtain⟨x4,rfl⟩:=zFq (F:=Fl.u) u24 und64 clq64 (fun _=>shp_fl) (fun _=>rfl) k4
 obtain⟨x5,rfl⟩:=zFq (F:=Lk.u) u25 und68 clq68 (fun _=>shp_lk) (fun _=>rfl) k5
 exact⟨⟨x1,x2,x3,x4,x5⟩,rfl⟩
theorem arg_z{u:U}(h:∃cs,u=.agg cs∧Shp Tryz.prog 27 cs):∃z:Zt,u=z.u:=by
 obtain⟨cs,rfl,h⟩:=h
 obtain⟨z,rfl⟩:=shp_z h
 exact⟨z,rfl⟩
theorem shpL_ints{css:List (List U)}(h:ShpL Tryz.prog 3 css):∃l:List Int,css=l.map fun n:Int=>[U.int .i64 n]:=shpL_map (f:=fun n:Int=>[.int .i64 n]) h fun _ hcs=>zBA hcs
theorem shp_arr{t n:Nat}(hu:Tryz.prog.underlying t=some (.array n 3)){cs:List U}(h:Shp Tryz.prog t cs):∃l:List Int,l.length=n∧cs=(l.map fun n:Int=>[U.int .i64 n]).flatten:=by
 cases h with
 |array _ n e css hu' hl hn=>
  rw[hu]at hu';cases hu'
  obtain⟨l,rfl⟩:=shpL_ints hl
  exact⟨l,by simpa using hn,rfl⟩
 |int _ k n hu' _=>rw[hu]at hu';cases hu'
 |bool _ _ hu'=>rw[hu]at hu';cases hu'
 |str _ _ hu'=>rw[hu]at hu';cases hu'
 |slice _ _ _ hu'=>rw[hu]at hu';cases hu'
 |struct _ _ _ hu'=>rw[hu]at hu';cases hu'
theorem arg_two{u:U}(h:∃cs,u=.agg cs∧Shp Tryz.prog 29 cs):∃a b:Int,u=yQ a b:=by
 obtain⟨cs,rfl,h⟩:=h
 obtain⟨l,hl,rfl⟩:=shp_arr u29 h
 match l,hl with
 |[a,b],_=>exact⟨a,b,rfl⟩
end Go.Proofs.YtpckmojdekdbbaaGreat.settles
