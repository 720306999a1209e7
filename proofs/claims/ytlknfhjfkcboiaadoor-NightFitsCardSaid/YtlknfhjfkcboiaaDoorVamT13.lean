import Derived.Test.YtlknfhjfkcboiaaDoorVamT12
set_option linter.unusedVariables false
set_option linter.unusedSimpArgs false
set_option linter.constructorNameAsVariable false
namespace Go.Proofs.YtlknfhjfkcboiaaDoor.night
open Vam
variable {is:FuncId→Bool}{orc:Known}
theorem by48:Program.bytesOf Tryd.prog 48=16:=by kernel_rfl
theorem ty26:tyOf Tryd.prog 26=.slice 48:=by kernel_rfl
theorem zGG:AppT Tryd.prog 26 26 48 2 16 ((.cons (.int .i64 0) (.cons (.int .i64 0) .nil)):V):=⟨ty26,⟨_,ty26⟩,cl48,by decide,by48,ze48,rfl⟩
noncomputable def b52:Code:=(Tryd.f52.body).getD .skip
theorem body52:bodyOf Tryd.prog 52=some (35,b52,[.tmp 4]):=by kernel_rfl
theorem pure52:pureFn Tryd.prog 52=true:=by kernel_rfl
noncomputable def b14:Code:=(Tryd.f14.body).getD .skip
theorem body14:bodyOf Tryd.prog 14=some (20,b14,[.tmp 4,.tmp 5]):=by kernel_rfl
theorem pure14:pureFn Tryd.prog 14=true:=by kernel_rfl
structure Two where
 a:Int
 b:Int
abbrev Two.u(q:Two):U:=yk q.a q.b
abbrev zDQ(l:List Two):List U:=l.map Two.u
theorem zDH(l:List Two)(kd:Kd)(hk:kd≠.own)(k:Nat):Dat (k+2) (.lst kd 2 (zDQ l)):=by
 refine .lst _ _ _ _ hk fun c hc=>?_
 obtain⟨e,h1,h2⟩:=List.mem_flatMap.1 hc
 obtain⟨q,_,rfl⟩:=List.mem_map.1 h1
 exact zb (.int _ _ _) (.int _ _ _) c h2
def spL(b:Bk)(d L:List Int):List Two:=[⟨clS b d L false 1,clS b d L true 1⟩,⟨clS b d L false 2,clS b d L true 2⟩,⟨clS b d L false 3,clS b d L true 3⟩]
set_option maxHeartbeats 8000000 in
theorem ret52(hi:Off is){b:Bk}(h:BOk b){d L:List Int}(hd:DOk b d)(hL:L.length≤64):RetP Tryd.prog is orc 52 [crU b d,.lst .ro 1 (zE L)] (.lst .ro 2 (zDQ (spL b d L))):=by
 refine zc body52 pure52 (hi 52 (by decide)) rfl rfl (zb (zBU b d 4) (zP 6 .ro (fun h=>by cases h) 1 L)) (.inl (zDH _ .ro (fun h=>by cases h) 6)) ?_
 have q0:=ret79 (orc:=orc) hi h hd hL false
 have q1:=ret79 (orc:=orc) hi h hd hL true
 unfold spL
 generalize clS b d L false 1=A1 at*
 generalize clS b d L false 2=A2 at*
 generalize clS b d L false 3=A3 at*
 generalize clS b d L true 1=C1 at*
 generalize clS b d L true 2=C2 at*
 generalize clS b d L true 3=C3 at*
 have q0:RetP Tryd.prog is orc 79 [crU b d,.lst .ro 1 (zE L),.int .i64 0] (.agg (tri A1 A2 A3)):=q0
 have q1:RetP Tryd.prog is orc 79 [crU b d,.lst .ro 1 (zE L),.int .i64 1] (.agg (tri C1 C2 C3)):=q1
 have ft:∀x y z,FlatU (.agg (tri x y z)):=fun x y z=>.agg _ fun c hc=>by
  simp only[List.mem_cons,List.not_mem_nil,or_false]at hc
  rcases hc with rfl|rfl|rfl<;>exact .int _ _
 refine kQ (zq rfl rfl (zB rfl (zC ?_)))
 refine zF [(1,.lst .ro 1 (zE L)),(2,U.box 0 0)] ([SB.box (Bk.cd b d)]) (.n2 rfl) rfl fun fr=>?_
 refine k_seq (yY [.read true,.plain,.read false,.read true,.plain,.read false,.pre,.pre,.plain,.plain] (by kernel_rfl) (by kernel_rfl) (by kernel_rfl) ?_)
 refine zT rfl (kC rfl sh72 (zC rfl)) ?_
 refine zD (zA rfl (zC rfl)) (zAM rfl q0 (ft _ _ _) (.lrefl _) ?_)
 refine zT rfl (kC rfl sh72 (zC rfl)) ?_
 refine zD (zA rfl (zC rfl)) (zAM rfl q1 (ft _ _ _) (.lrefl _) ?_)
 refine d_pre rfl ze98 ?_
 refine d_pre rfl ze98 ?_
 refine zD (zW rfl rfl sh98 rfl rfl rfl rfl rfl (zC rfl)) ?_
 refine zD (zW rfl rfl sh98 rfl rfl rfl rfl rfl (zC rfl)) ?_
 refine wS ?_
 refine zF [(5,U.box 1 0),(6,U.box 2 0)] ([SB.box (Bk.cd b d),SB.box [.int .i64 A1,.int .i64 A2,.int .i64 A3],SB.box [.int .i64 C1,.int .i64 C2,.int .i64 C3]]) (.n2 rfl) rfl fun fr=>?_
 refine kQ (zB rfl (zC (k_seq (kQ (zA rfl (zC (zJ ?_)))))))
 refine yX (fun kk s2=>s2.st=[.box (Bk.cd b d),.box (tri A1 A2 A3),.box (tri C1 C2 C3)]∧((kk=3∧Holds s2 [(5,.box 1 0),(6,.box 2 0),(7,.lst .full 0 []),(15,.int .i64 0)])∨(kk=2∧Holds s2 [(5,.box 1 0),(6,.box 2 0),(7,.lst .own 2 [yk A1 C1]),(15,.int .i64 1)])∨(kk=1∧Holds s2 [(5,.box 1 0),(6,.box 2 0),(7,.lst .own 2 [yk A1 C1,yk A2 C2]),(15,.int .i64 2)])∨(kk=0∧Holds s2 [(5,.box 1 0),(6,.box 2 0),(7,.lst .own 2 [yk A1 C1,yk A2 C2,yk A3 C3]),(15,.int .i64 3)]))) (fun kk s2 hI=>?_) 3 _ ⟨rfl,.inl ⟨rfl,.c4 rfl rfl rfl rfl (.nil rfl)⟩⟩
 obtain⟨hst2,⟨hk,hs2⟩|⟨hk,hs2⟩|⟨hk,hs2⟩|⟨hk,hs2⟩⟩:=hI
 ·refine zF _ _ hs2 hst2 fun fr2=>?_
  refine kQ (kp rfl (zC (k_seq (k_cT rfl rfl ?_))))
  refine zL (k_seq (zJ (kQ (zA rfl (zB rfl (zC (yY [.plain,.plain,.plain,.read true,.plain,.plain,.read true,.plain,.plain,.plain,.plain] (by kernel_rfl) (by kernel_rfl) (by kernel_rfl) ?_)))))))
  refine zD (zA rfl (zC rfl)) (zD (zA rfl (zC rfl)) (zD (zAf rfl ty98 rfl rfl (by omega) (by omega) cl3 (zC rfl)) ?_))
  refine zT rfl (kB rfl sh3 (zC rfl)) (zD (zA rfl (zC rfl)) (zD (zAf rfl ty98 rfl rfl (by omega) (by omega) cl3 (zC rfl)) ?_))
  refine zT rfl (kB rfl sh3 (zC rfl)) (zD (wI rfl ze48 pl48 rfl rfl (zC rfl)) ?_)
  refine zD (zAo (es:=[U.agg [.int .i64 A1,.int .i64 C1]]) rfl ty26 ze48 cl48 rfl rfl rfl rfl rfl rfl rfl rfl (zC rfl)) ?_
  refine zD (zAg rfl zGG rfl rfl (by simp) (by simp) (by simp[yI,zt,oneU]) (by simp) (zC rfl)) ?_
  refine zD (zB rfl (zC rfl)) ?_
  refine wS ?_
  refine k_region ?_
  refine kA rfl (by unfold I64;omega) (zA rfl (zC ?_))
  exact⟨2,by omega,rfl,.inr (.inl ⟨rfl,.c4 rfl rfl rfl rfl (.nil rfl)⟩)⟩
 ·refine zF _ _ hs2 hst2 fun fr2=>?_
  refine kQ (kp rfl (zC (k_seq (k_cT rfl rfl ?_))))
  refine zL (k_seq (zJ (kQ (zA rfl (zB rfl (zC (yY [.plain,.plain,.plain,.read true,.plain,.plain,.read true,.plain,.plain,.plain,.plain] (by kernel_rfl) (by kernel_rfl) (by kernel_rfl) ?_)))))))
  refine zD (zA rfl (zC rfl)) (zD (zA rfl (zC rfl)) (zD (zAf rfl ty98 rfl rfl (by omega) (by omega) cl3 (zC rfl)) ?_))
  refine zT rfl (kB rfl sh3 (zC rfl)) (zD (zA rfl (zC rfl)) (zD (zAf rfl ty98 rfl rfl (by omega) (by omega) cl3 (zC rfl)) ?_))
  refine zT rfl (kB rfl sh3 (zC rfl)) (zD (wI rfl ze48 pl48 rfl rfl (zC rfl)) ?_)
  refine zD (zAo (es:=[U.agg [.int .i64 A2,.int .i64 C2]]) rfl ty26 ze48 cl48 rfl rfl rfl rfl rfl rfl rfl rfl (zC rfl)) ?_
  refine zD (zAH 7 rfl zGG rfl rfl rfl (by simp) (by simp) (by simp[yI,zt,oneU]) (by simp) (zC rfl)) ?_
  refine zD (zB rfl (zC rfl)) ?_
  refine wS ?_
  refine k_region ?_
  refine kA rfl (by unfold I64;omega) (zA rfl (zC ?_))
  exact⟨1,by omega,rfl,.inr (.inr (.inl ⟨rfl,.c4 rfl rfl rfl rfl (.nil rfl)⟩))⟩
 ·refine zF _ _ hs2 hst2 fun fr2=>?_
  refine kQ (kp rfl (zC (k_seq (k_cT rfl rfl ?_))))
  refine zL (k_seq (zJ (kQ (zA rfl (zB rfl (zC (yY [.plain,.plain,.plain,.read true,.plain,.plain,.read true,.plain,.plain,.plain,.plain] (by kernel_rfl) (by kernel_rfl) (by kernel_rfl) ?_)))))))
  refine zD (zA rfl (zC rfl)) (zD (zA rfl (zC rfl)) (zD (zAf rfl ty98 rfl rfl (by omega) (by omega) cl3 (zC rfl)) ?_))
  refine zT rfl (kB rfl sh3 (zC rfl)) (zD (zA rfl (zC rfl)) (zD (zAf rfl ty98 rfl rfl (by omega) (by omega) cl3 (zC rfl)) ?_))
  refine zT rfl (kB rfl sh3 (zC rfl)) (zD (wI rfl ze48 pl48 rfl rfl (zC rfl)) ?_)
  refine zD (zAo (es:=[U.agg [.int .i64 A3,.int .i64 C3]]) rfl ty26 ze48 cl48 rfl rfl rfl rfl rfl rfl rfl rfl (zC rfl)) ?_
  refine zD (zAH 7 rfl zGG rfl rfl rfl (by simp) (by simp) (by simp[yI,zt,oneU]) (by simp) (zC rfl)) ?_
  refine zD (zB rfl (zC rfl)) ?_
  refine wS ?_
  refine k_region ?_
  refine kA rfl (by unfold I64;omega) (zA rfl (zC ?_))
  exact⟨0,by omega,rfl,.inr (.inr (.inr ⟨rfl,.c4 rfl rfl rfl rfl (.nil rfl)⟩))⟩
 ·refine zF _ _ hs2 hst2 fun fr2=>?_
  refine kQ (kp rfl (zC (k_seq (k_cF rfl rfl ?_))))
  refine zx (kQ (zA rfl (zA rfl (zS rfl ty26 rfl rfl ?_))))
  refine zA rfl (zS rfl ty26 rfl rfl ?_)
  refine o_slice0 rfl ty26 cl48 rfl (by simp) rfl rfl (Nat.le_refl _) ?_
  refine zB rfl (zC (zR ?_))
  refine⟨.inr rfl,_,.cons _ _ _ _ (.tmp 4) .nil,?_⟩
  exact .ro _ _ _
theorem ret14(hi:Off is){b:Bk}(h:VOk b){L:List Int}(hc:Cho b L):RetP Tryd.prog is orc 14 [b.u,.lst .ro 1 (zE L)] (.tup [.lst .ro 2 (zDQ (spL b [] L)),.int .i64 0]):=by
 have hn:=h.sn
 have hl:=hc.len
 have q51:=ret51 (orc:=orc) hi h L
 rw[zEb.2 hc]at q51
 have q51:RetP Tryd.prog is orc 51 [b.u,.lst .ro 1 (zE L)] (.tup [crU b [],.int .i64 0]):=q51
 have q52:=ret52 (orc:=orc) hi h.toBOk (dok_nil b) (L:=L) (by omega)
 refine zc body14 pure14 (hi 14 (by decide)) rfl rfl (zb (yZ b 4) (zP 6 .ro (fun h=>by cases h) 1 L)) (.inr ⟨_,rfl,zb (k:=7) (zDH _ .ro (fun h=>by cases h) 5) (.int _ _ _)⟩) ?_
 generalize spL b [] L=S at*
 refine kQ (zq rfl rfl (zB rfl (zB rfl (zC ?_))))
 refine zF [(1,.lst .ro 1 (zE L)),(2,U.box 0 0)] ([SB.box (Bk.cs b)]) (.n2 rfl) rfl fun fr=>?_
 refine kQ (kC rfl sh25 (zA rfl (zG rfl (q51) (.lrefl _) (zA rfl (kw rfl (kw rfl (zi rfl ze72 ?_)))))))
 refine zW rfl rfl sh72 rfl rfl rfl rfl rfl ?_
 refine zB rfl (zC ?_)
 refine zF [(1,.lst .ro 1 (zE L)),(6,U.box 1 0),(7,.int .i64 0)] ([SB.box (Bk.cs b),SB.box [.int .i64 (Bk.bg b),.lst .ro 1 (zE (Bk.opens b)),.lst .ro 1 (zE (Bk.ends b)),.lst .ro 5 (scsU (Bk.scenes b)),.int .i64 (Bk.fee b),.lst .ro 1 (zE (Bk.loads b)),.int .i64 (Bk.cart b),.int .i64 (Bk.cost b),.int .i64 (Bk.feast b),.lst .ro 1 (zE (Bk.shares b)),.lst .ro 1 (zE [])]]) (.n3 rfl) rfl fun fr=>?_
 refine k_seq (kQ (zA rfl (ks rfl (zC (k_cF rfl rfl ?_)))))
 refine zL (kQ (kC rfl sh72 (zA rfl (zG rfl (q52) (.lrefl _) (zB rfl (zB rfl (zC (zR ?_))))))))
 refine⟨.inr rfl,_,.cons _ _ _ _ (.tmp 4) (.cons _ _ _ _ (.tmp 5) .nil),?_⟩
 exact .refl _
end Go.Proofs.YtlknfhjfkcboiaaDoor.night
