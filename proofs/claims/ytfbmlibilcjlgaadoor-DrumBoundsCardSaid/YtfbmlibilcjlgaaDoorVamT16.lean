import Derived.Test.YtfbmlibilcjlgaaDoorVamT15
set_option linter.unusedVariables false
set_option linter.unusedSimpArgs false
set_option linter.constructorNameAsVariable false
namespace Go.Proofs.YtfbmlibilcjlgaaDoor.drumBounds
open Vam
section
variable {is:FuncId→Bool}{orc:Known}
noncomputable def b87:Code:=(Tryd.f87.body).getD .skip
theorem body87:bodyOf Tryd.prog 87=some (8,b87,[.tmp 2]):=by kernel_rfl
theorem pure87:pureFn Tryd.prog 87=true:=by kernel_rfl
theorem ret87(hi:Off is)(n:Int)(hn: -100≤n∧n≤100):RetP Tryd.prog is orc 87 [.int .i64 n] (.int .i64 (max n (-n))):=by
 refine zk body87 pure87 (hi 87 (by decide)) rfl rfl (zAH (.int _ _ _)) (.inl (.int _ _ _)) ?_
 by_cases h:n<0
 ·rw[show max n (-n)= -n by omega]
  refine kQ (zB rfl (zA (k_seq (kQ (zC rfl (zf rfl rfl rfl (zA (k_cT rfl (decide_eq_true (by omega)) ?_))))))))
  refine kQ (zC rfl ?_)
  refine o_neg rfl rfl (by unfold I64;omega) ?_
  refine zB rfl (zA (zU ?_))
  refine⟨.inr rfl,_,.cons _ _ _ _ (.tmp 2) .nil,?_⟩
  exact .refl _
 ·rw[show max n (-n)=n by omega]
  refine kQ (zB rfl (zA (k_seq (kQ (zC rfl (zf rfl rfl rfl (zA (k_cF rfl (decide_eq_false (by omega)) ?_))))))))
  refine zQ (kQ (zC rfl (zB rfl (zA (zU ?_)))))
  refine⟨.inr rfl,_,.cons _ _ _ _ (.tmp 2) .nil,?_⟩
  exact .refl _
end
section
variable {is:FuncId→Bool}{orc:Known}
theorem zEU{P:Program}{t:TypeId}(n:Nat)(h:(match P.underlying t with|some (.struct fs)=>Nat.beq fs.size n|_=>false)=true):∃fs,P.underlying t=some (.struct fs):=by
 cases hu:P.underlying t with
 |none=>rw[hu]at h;cases h
 |some ty=>rw[hu]at h;cases ty<;>first|exact⟨_,rfl⟩|cases h
theorem u3:Tryd.prog.underlying 3=some (.int .i64):=by kernel_rfl
theorem u22:Tryd.prog.underlying 22=some (.slice 3):=by kernel_rfl
theorem u66:Tryd.prog.underlying 66=some (.slice 24):=by kernel_rfl
theorem u25:Tryd.prog.underlying 25=some (.slice 68):=by kernel_rfl
def fts(P:Program)(t:TypeId):List TypeId:=match P.underlying t with|some (.struct fs)=>fs.toList.map (·.type)|_=>[]
theorem f27:fts Tryd.prog 27=[3,3,22,3,3,24,24,3,25]:=by kernel_rfl
theorem f24:fts Tryd.prog 24=[3,3]:=by kernel_rfl
theorem f68:fts Tryd.prog 68=[24,66]:=by kernel_rfl
theorem clq24:Program.cellsOf Tryd.prog 24=2:=by kernel_rfl
theorem clq68:Program.cellsOf Tryd.prog 68=3:=by kernel_rfl
theorem clq3:Program.cellsOf Tryd.prog 3=1:=by kernel_rfl
theorem zCK{cs:List U}(h:Shp Tryd.prog 3 cs):∃n:Int,cs=[.int .i64 n]:=by
 cases h with
 |int _ k n hu _=>rw[u3]at hu;cases hu;exact⟨n,rfl⟩
 |bool _ _ hu=>rw[u3]at hu;cases hu
 |str _ _ hu=>rw[u3]at hu;cases hu
 |slice _ _ _ hu=>rw[u3]at hu;cases hu
 |struct _ _ _ hu=>rw[u3]at hu;cases hu
 |array _ _ _ _ hu=>rw[u3]at hu;cases hu
theorem zEZ{P:Program}{t:TypeId}{cs:List U}(h:Shp P t cs)(hne:fts P t≠[]):∃fs:List Field,fs.map (·.type)=fts P t∧ShpF P fs cs:=by
 have no:∀{ty},P.underlying t=some ty→(∀fs,ty≠.struct fs)→False:=fun hu hn=>hne (by unfold fts;rw[hu];split<;>simp_all)
 cases h with
 |struct _ fs _ hu hf=>exact⟨fs.toList,by unfold fts;rw[hu],hf⟩
 |int _ k n hu _=>exact(no hu (by intro fs h;cases h)).elim
 |bool _ _ hu=>exact(no hu (by intro fs h;cases h)).elim
 |str _ _ hu=>exact(no hu (by intro fs h;cases h)).elim
 |slice _ _ _ hu=>exact(no hu (by intro fs h;cases h)).elim
 |array _ _ _ _ hu=>exact(no hu (by intro fs h;cases h)).elim
theorem wK{P:Program}{fs:List Field}{t:TypeId}{ts:List TypeId}{cs:List U}(h:ShpF P fs cs)(e:fs.map (·.type)=t::ts):∃gs xs ys,cs=xs++ys∧Shp P t xs∧ShpF P gs ys∧gs.map (·.type)=ts:=by
 cases h with
 |nil=>cases e
 |cons f fs xs ys h1 h2=>
  simp only[List.map_cons,List.cons.injEq]at e
  obtain⟨rfl,rfl⟩:=e
  exact⟨fs,xs,ys,rfl,h1,h2,rfl⟩
theorem shpF_nil{P:Program}{fs:List Field}{cs:List U}(h:ShpF P fs cs)(e:fs.map (·.type)=[]):cs=[]:=by
 cases h with
 |nil=>rfl
 |cons=>cases e
theorem zFc{cs:List U}(h:Shp Tryd.prog 24 cs):∃a b:Int,cs=[.int .i64 a,.int .i64 b]:=by
 obtain⟨fs,e,hf⟩:=zEZ h (by rw[f24];simp)
 rw[f24]at e
 obtain⟨g1,a1,b1,rfl,k1,r1,e1⟩:=wK hf e
 obtain⟨g2,a2,b2,rfl,k2,r2,e2⟩:=wK r1 e1
 obtain rfl:=shpF_nil r2 e2
 obtain⟨x,rfl⟩:=zCK k1
 obtain⟨y,rfl⟩:=zCK k2
 exact⟨x,y,rfl⟩
theorem shpL_map{P:Program}{e:TypeId}{α:Type}{f:α→List U}{css:List (List U)}(h:ShpL P e css)(k:∀cs,Shp P e cs→∃q,cs=f q):∃l:List α,css=l.map f:=by
 induction css with
 |nil=>exact⟨[],rfl⟩
 |cons cs css ih=>
  cases h with
  |cons _ _ _ h1 h2=>
   obtain⟨q,rfl⟩:=k _ h1
   obtain⟨l,rfl⟩:=ih h2
   exact⟨q::l,rfl⟩
theorem zFy{P:Program}{t e:TypeId}{cs:List U}(hu:P.underlying t=some (.slice e))(h:Shp P t cs):∃css,ShpL P e css∧cs=[.lst .ro (P.cellsOf e) (css.map (eU P e))]:=by
 cases h with
 |slice _ e' css hu' hl=>rw[hu]at hu';cases hu';exact⟨css,hl,rfl⟩
 |int _ k n hu' _=>rw[hu]at hu';cases hu'
 |bool _ _ hu'=>rw[hu]at hu';cases hu'
 |str _ _ hu'=>rw[hu]at hu';cases hu'
 |struct _ _ _ hu'=>rw[hu]at hu';cases hu'
 |array _ _ _ _ hu'=>rw[hu]at hu';cases hu'
theorem eu68:∀cs,eU Tryd.prog 68 cs=.agg cs:=by
 obtain⟨fs,h⟩:=zEU (P:=Tryd.prog) (t:=68) 2 (by kernel_rfl)
 intro cs;unfold eU;rw[h]
theorem eu24:∀cs,eU Tryd.prog 24 cs=.agg cs:=by
 obtain⟨fs,h⟩:=zEU (P:=Tryd.prog) (t:=24) 2 (by kernel_rfl)
 intro cs;unfold eU;rw[h]
theorem eu3:∀cs,eU Tryd.prog 3 cs=cs.headD .junk:=by
 intro cs;unfold eU;rw[u3]
theorem map_ints{F:List U→U}(he:∀cs,F cs=cs.headD .junk)(l:List Int):(l.map fun n:Int=>[U.int .i64 n]).map F=zG l:=by
 rw[List.map_map]
 exact List.map_congr_left fun q _=>he _
theorem shp_ints{cs:List U}(h:Shp Tryd.prog 22 cs):∃l:List Int,cs=[.lst .ro 1 (zG l)]:=by
 obtain⟨css,hl,rfl⟩:=zFy u22 h
 obtain⟨l,rfl⟩:=shpL_map (f:=fun n:Int=>[.int .i64 n]) hl fun cs hcs=>zCK hcs
 refine⟨l,?_⟩
 rw[clq3,map_ints eu3]
theorem map_twos{F:List U→U}(he:∀cs,F cs=.agg cs)(l:List Two):(l.map fun q:Two=>[U.int .i64 q.a,.int .i64 q.b]).map F=zu l:=by
 rw[List.map_map]
 exact List.map_congr_left fun q _=>he _
theorem shp_spans{cs:List U}(h:Shp Tryd.prog 66 cs):∃l:List Two,cs=[.lst .ro 2 (zu l)]:=by
 obtain⟨css,hl,rfl⟩:=zFy u66 h
 obtain⟨l,rfl⟩:=shpL_map (f:=fun q:Two=>[.int .i64 q.a,.int .i64 q.b]) hl fun cs hcs=>by obtain⟨x,y,rfl⟩:=zFc hcs;exact⟨⟨x,y⟩,rfl⟩
 refine⟨l,?_⟩
 rw[clq24,map_twos eu24]
theorem shp_player{cs:List U}(h:Shp Tryd.prog 68 cs):∃p:Pl,cs=p.cs:=by
 obtain⟨fs,e,hf⟩:=zEZ h (by rw[f68];simp)
 rw[f68]at e
 obtain⟨g1,a1,b1,rfl,k1,r1,e1⟩:=wK hf e
 obtain⟨g2,a2,b2,rfl,k2,r2,e2⟩:=wK r1 e1
 obtain rfl:=shpF_nil r2 e2
 obtain⟨x,y,rfl⟩:=zFc k1
 obtain⟨l,rfl⟩:=shp_spans k2
 exact⟨⟨x,y,l⟩,rfl⟩
theorem map_pls{F:List U→U}(he:∀cs,F cs=.agg cs)(l:List Pl):(l.map fun q:Pl=>q.cs).map F=plsU l:=by
 rw[List.map_map]
 exact List.map_congr_left fun q _=>he _
theorem shp_players{cs:List U}(h:Shp Tryd.prog 25 cs):∃l:List Pl,cs=[.lst .ro 3 (plsU l)]:=by
 obtain⟨css,hl,rfl⟩:=zFy u25 h
 obtain⟨l,rfl⟩:=shpL_map (f:=fun q:Pl=>q.cs) hl fun cs hcs=>shp_player hcs
 refine⟨l,?_⟩
 rw[clq68,map_pls eu68]
theorem shp_bk{cs:List U}(h:Shp Tryd.prog 27 cs):∃b:Bk,cs=b.cs:=by
 obtain⟨fs,e,hf⟩:=zEZ h (by rw[f27];simp)
 rw[f27]at e
 obtain⟨g1,a1,b1,rfl,k1,r1,e1⟩:=wK hf e
 obtain⟨g2,a2,b2,rfl,k2,r2,e2⟩:=wK r1 e1
 obtain⟨g3,a3,b3,rfl,k3,r3,e3⟩:=wK r2 e2
 obtain⟨g4,a4,b4,rfl,k4,r4,e4⟩:=wK r3 e3
 obtain⟨g5,a5,b5,rfl,k5,r5,e5⟩:=wK r4 e4
 obtain⟨g6,a6,b6,rfl,k6,r6,e6⟩:=wK r5 e5
 obtain⟨g7,a7,b7,rfl,k7,r7,e7⟩:=wK r6 e6
 obtain⟨g8,a8,b8,rfl,k8,r8,e8⟩:=wK r7 e7
 obtain⟨g9,a9,b9,rfl,k9,r9,e9⟩:=wK r8 e8
 obtain rfl:=shpF_nil r9 e9
 obtain⟨parts,rfl⟩:=zCK k1
 obtain⟨size,rfl⟩:=zCK k2
 obtain⟨beats,rfl⟩:=shp_ints k3
 obtain⟨start,rfl⟩:=zCK k4
 obtain⟨fin,rfl⟩:=zCK k5
 obtain⟨tlo,thi,rfl⟩:=zFc k6
 obtain⟨slo,shi,rfl⟩:=zFc k7
 obtain⟨notice,rfl⟩:=zCK k8
 obtain⟨players,rfl⟩:=shp_players k9
 exact⟨⟨parts,size,beats,start,fin,tlo,thi,slo,shi,notice,players⟩,rfl⟩
theorem und27:∃fs,Tryd.prog.underlying 27=some (.struct fs):=zEU (P:=Tryd.prog) (t:=27) 9 (by kernel_rfl)
theorem arg_bk{u:U}(h:∃cs,u=.agg cs∧Shp Tryd.prog 27 cs):∃b:Bk,u=b.u:=by
 obtain⟨cs,rfl,h⟩:=h
 obtain⟨b,rfl⟩:=shp_bk h
 exact⟨b,rfl⟩
theorem arg_ints{u:U}(h:Shp Tryd.prog 22 [u]):∃l:List Int,u=.lst .ro 1 (zG l):=by
 obtain⟨l,e⟩:=shp_ints h
 cases e
 exact⟨l,rfl⟩
theorem arg_int{u:U}(h:Shp Tryd.prog 3 [u]):∃n:Int,u=.int .i64 n:=by
 obtain⟨n,e⟩:=zCK h
 cases e
 exact⟨n,rfl⟩
end
end Go.Proofs.YtfbmlibilcjlgaaDoor.drumBounds
