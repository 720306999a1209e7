import Derived.Test.YtfbmlibilcjlgaaDoorVamT18
set_option linter.unusedVariables false
set_option linter.unusedSimpArgs false
set_option linter.constructorNameAsVariable false
namespace Go.Proofs.YtfbmlibilcjlgaaDoor.drumBounds
open Vam
variable {is:FuncId→Bool}{orc:Known}
noncomputable def b18:Code:=(Tryd.f18.body).getD .skip
theorem body18:bodyOf Tryd.prog 18=some (107,b18,[.tmp 2]):=by kernel_rfl
theorem pure18:pureFn Tryd.prog 18=true:=by kernel_rfl
def ckA(b:Bk):Bool:=inS 1 8 b.parts&&(inS 1 16 b.size&&(decide ((b.beats.length:Int)=4)&&(inS 0 3 b.start&&(inS 0 3 b.fin&&(zBp b.tlo b.thi 0 128000&&(zBp b.slo b.shi 0 100&&(inS 1 b.size b.notice&&inS 1 5 b.players.length)))))))
def ckP(p:Pl):Bool:=zBp p.la p.lb 0 500&&(decide ((p.cat.length:Int)=4)&&p.cat.all fun c=>zBp c.a c.b 0 100)
theorem take_all{α:Type}(f:α→Bool){l:List α}{i:Nat}{x:α}(h:l[i]? =some x):(l.take (i+1)).all f=((l.take i).all f&&f x):=by
 rw[List.take_add_one,h,List.all_append];simp
theorem zFb(a c:Int)(q:Two):spB a c q=zBp q.a q.b a c:=by
 unfold spB zBp inS
 rw[Bool.eq_iff_iff]
 simp only[List.all_cons,List.all_nil,Bool.and_eq_true,decide_eq_true_eq,and_true]
 omega
theorem ck_valid(b:Bk):(ckA b&&(b.beats.all (inS 1 1000)&&b.players.all ckP))=wl b:=by
 have hp:ckP=plB:=by
  funext p
  unfold ckP plB
  rw[zFb]
  congr 2
  ·rw[Bool.eq_iff_iff,decide_eq_true_eq,decide_eq_true_eq];omega
  ·exact congrArg _ (funext fun c=>(zFb 0 100 c).symm)
 rw[hp]
 unfold ckA wl vlA vlB
 rw[zFb,zFb,Bool.eq_iff_iff]
 simp only[List.all_cons,List.all_nil,Bool.and_eq_true,decide_eq_true_eq,and_true]
 constructor
 ·rintro⟨⟨h1,h2,h3,h4,h5,h6,h7,h8,h9⟩,h10,h11⟩
  exact⟨⟨by omega,h9⟩,h11,h1,h2,h10,⟨h4,h5⟩,h6,h7,h8⟩
 ·rintro⟨⟨h3,h9⟩,h11,h1,h2,h10,⟨h4,h5⟩,h6,h7,h8⟩
  exact⟨⟨h1,h2,by omega,h4,h5,h6,h7,h8,h9⟩,h10,h11⟩
set_option maxHeartbeats 16000000 in
theorem ret18(hi:Off is)(b:Bk):RetP Tryd.prog is orc 18 [b.u] (.int .i64 (if wl b=true then 0 else 80)):=by
 refine zk body18 pure18 (hi 18 (by decide)) rfl rfl (zAH (yK b 4)) (.inl (.int _ _ _)) ?_
 refine kQ (zc rfl rfl (zB rfl (zA ?_)))
 refine zH [(1,U.box 0 0)] ([SB.box (Bk.cs b)]) (.cons rfl (.nil rfl)) rfl fun fr=>?_
 refine k_cut (fun st=>st.st=[.box (Bk.cs b)]∧Holds st [(1,.box 0 0),(3,.bool (ckA b))]) ?_ (fun st hM=>?_)
 ·have q1:=zFQ (orc:=orc) hi b.parts 1 8
  have q2:=zFQ (orc:=orc) hi b.size 1 16
  have q4:=zFQ (orc:=orc) hi b.start 0 3
  have q5:=zFQ (orc:=orc) hi b.fin 0 3
  have q6:=ret59 (orc:=orc) hi b.tlo b.thi 0 128000
  have q7:=ret59 (orc:=orc) hi b.slo b.shi 0 100
  have q8:=zFQ (orc:=orc) hi b.notice 1 b.size
  have q9:=zFQ (orc:=orc) hi b.players.length 1 5
  have e3:decide ((b.beats.length:Int)=4)=decide ((b.beats.length:Int)=4):=rfl
  unfold ckA
  generalize inS 1 8 b.parts=z1 at*
  generalize inS 1 16 b.size=z2 at*
  generalize inS 0 3 b.start=z4 at*
  generalize inS 0 3 b.fin=z5 at*
  generalize zBp b.tlo b.thi 0 128000=z6 at*
  generalize zBp b.slo b.shi 0 100=z7 at*
  generalize inS 1 b.size b.notice=z8 at*
  generalize inS 1 5 b.players.length=z9 at*
  refine k_region (zE rfl rfl wU (zF rfl rfl rfl sh3 rfl (zP rfl (q1) (.lrefl _) (zC rfl ?_))))
  refine wS rfl rfl rfl rfl (fun h11=>?_) (fun h11=>?_)
  ·refine zE rfl rfl yZ ?_
   refine o_gD rfl rfl rfl rfl (by assumption) (zF rfl rfl rfl sh3 rfl (o_gD rfl rfl rfl rfl (by assumption) (zP rfl (q2) (.lrefl _) (za rfl rfl (by assumption) ?_))))
   refine zC rfl ?_
   refine zV [(1,U.box 0 0),(16,U.bool z2)] [] ([SB.box (Bk.cs b)]) (.cons rfl (.cons rfl (.nil rfl))) rfl rfl fun fr=>?_
   refine wS rfl rfl rfl rfl (fun h16=>?_) (fun h16=>?_)
   ·refine zV [(1,U.box 0 0),(16,U.bool z2)] [] ([SB.box (Bk.cs b)]) (.cons rfl (.cons rfl (.nil rfl))) rfl rfl fun fr=>?_
    refine zE rfl rfl zCy (o_gD rfl rfl rfl rfl (by assumption) (zF rfl rfl rfl sh22 rfl (o_gD rfl rfl rfl rfl (by assumption) (yF rfl ty22 rfl (List.length_map _) ?_))))
    refine o_gD rfl rfl rfl rfl (by assumption) (zAt rfl rfl rfl (za rfl rfl (by assumption) ?_))
    refine zC rfl ?_
    refine wS rfl rfl rfl rfl (fun h22=>?_) (fun h22=>?_)
    ·refine zE rfl rfl zEp ?_
     refine o_gD rfl rfl rfl rfl (by assumption) (zF rfl rfl rfl sh3 rfl (o_gD rfl rfl rfl rfl (by assumption) (zP rfl (q4) (.lrefl _) ?_)))
     refine zV [(1,U.box 0 0),(22,U.bool (decide (↑(List.length (Bk.beats b))=(4:Int)))),(25,U.bool z4)] [] ([SB.box (Bk.cs b)]) (.cons rfl (.cons rfl (.cons rfl (.nil rfl)))) rfl rfl fun fr=>?_
     refine za rfl rfl (by assumption) ?_
     refine zC rfl ?_
     refine wS rfl rfl rfl rfl (fun h27=>?_) (fun h27=>?_)
     ·refine zE rfl rfl zEo ?_
      refine o_gD rfl rfl rfl rfl (by assumption) (zF rfl rfl rfl sh3 rfl (o_gD rfl rfl rfl rfl (by assumption) (zP rfl (q5) (.lrefl _) (za rfl rfl (by assumption) ?_))))
      refine zC rfl ?_
      refine wS rfl rfl rfl rfl (fun h32=>?_) (fun h32=>?_)
      ·refine zE rfl rfl zGa ?_
       refine o_gD rfl rfl rfl rfl (by assumption) (zJ rfl rfl rfl sh24 rfl ?_)
       refine zV [(1,U.box 0 0),(32,U.bool z5),(34,U.agg [.int .i64 (Bk.tlo b),.int .i64 (Bk.thi b)])] [] ([SB.box (Bk.cs b)]) (.cons rfl (.cons rfl (.cons rfl (.nil rfl)))) rfl rfl fun fr=>?_
       refine o_gD rfl rfl rfl rfl (by assumption) ?_
       refine zV [(1,U.box 0 0),(32,U.bool z5),(34,U.agg [.int .i64 (Bk.tlo b),.int .i64 (Bk.thi b)])] [] ([SB.box (Bk.cs b)]) (.cons rfl (.cons rfl (.cons rfl (.nil rfl)))) rfl rfl fun fr=>?_
       refine zP rfl (q6) (.lrefl _) (za rfl rfl (by assumption) ?_)
       refine zC rfl ?_
       refine wS rfl rfl rfl rfl (fun h37=>?_) (fun h37=>?_)
       ·refine zE rfl rfl zGZ ?_
        refine o_gD rfl rfl rfl rfl (by assumption) (zJ rfl rfl rfl sh24 rfl (o_gD rfl rfl rfl rfl (by assumption) (zP rfl (q7) (.lrefl _) (za rfl rfl (by assumption) ?_))))
        refine zC rfl ?_
        refine wS rfl rfl rfl rfl (fun h42=>?_) (fun h42=>?_)
        ·refine zE rfl rfl zCx ?_
         refine zV [(1,U.box 0 0),(42,U.bool z7),(43,U.box 0 9)] [] ([SB.box (Bk.cs b)]) (.cons rfl (.cons rfl (.cons rfl (.nil rfl)))) rfl rfl fun fr=>?_
         refine o_gD rfl rfl rfl rfl (by assumption) ?_
         refine zV [(1,U.box 0 0),(42,U.bool z7),(43,U.box 0 9)] [] ([SB.box (Bk.cs b)]) (.cons rfl (.cons rfl (.cons rfl (.nil rfl)))) rfl rfl fun fr=>?_
         refine zF rfl rfl rfl sh3 rfl (o_gD rfl rfl rfl rfl (by assumption) (zE rfl rfl yZ (o_gD rfl rfl rfl rfl (by assumption) (zF rfl rfl rfl sh3 rfl (o_gD rfl rfl rfl rfl (by assumption) (zP rfl (q8) (.lrefl _) (za rfl rfl (by assumption) ?_)))))))
         refine zC rfl ?_
         refine wS rfl rfl rfl rfl (fun h49=>?_) (fun h49=>?_)
         ·refine zE rfl rfl yd ?_
          refine o_gD rfl rfl rfl rfl (by assumption) (zF rfl rfl rfl sh25 rfl (o_gD rfl rfl rfl rfl (by assumption) (yF rfl ty25 rfl (List.length_map _) ?_)))
          refine zV [(1,U.box 0 0),(49,U.bool z8),(52,.int .i64 ↑(List.length (Bk.players b)))] [] ([SB.box (Bk.cs b)]) (.cons rfl (.cons rfl (.cons rfl (.nil rfl)))) rfl rfl fun fr=>?_
          refine o_gD rfl rfl rfl rfl (by assumption) ?_
          refine zV [(1,U.box 0 0),(49,U.bool z8),(52,.int .i64 ↑(List.length (Bk.players b)))] [] ([SB.box (Bk.cs b)]) (.cons rfl (.cons rfl (.cons rfl (.nil rfl)))) rfl rfl fun fr=>?_
          refine zP rfl (q9) (.lrefl _) (za rfl rfl (by assumption) ?_)
          refine zB rfl (zA ?_)
          subst_vars;exact⟨rfl,rfl,.cons rfl (.cons (by rw[‹decide ((b.beats.length:Int)=4)=true›];rfl) (.nil rfl))⟩
         ·refine o_gS rfl rfl rfl rfl (by assumption) ?_
          refine o_gS rfl rfl rfl rfl (by assumption) ?_
          refine zV [(1,U.box 0 0),(49,U.bool z8),(52,U.tup [])] [] ([SB.box (Bk.cs b)]) (.cons rfl (.cons rfl (.cons rfl (.nil rfl)))) rfl rfl fun fr=>?_
          refine o_gS rfl rfl rfl rfl (by assumption) (zN rfl rfl (by assumption) ?_)
          refine zB rfl (zA ?_)
          subst_vars;exact⟨rfl,rfl,.cons rfl (.cons (by rw[‹decide ((b.beats.length:Int)=4)=true›];rfl) (.nil rfl))⟩
        ·refine zV [(1,U.box 0 0),(42,U.bool z7),(43,U.tup [])] [] ([SB.box (Bk.cs b)]) (.cons rfl (.cons rfl (.cons rfl (.nil rfl)))) rfl rfl fun fr=>?_
         refine o_gS rfl rfl rfl rfl (by assumption) (o_gS rfl rfl rfl rfl (by assumption) (o_gS rfl rfl rfl rfl (by assumption) (o_gS rfl rfl rfl rfl (by assumption) (zN rfl rfl (by assumption) ?_))))
         refine zC rfl (o_gS rfl rfl rfl rfl rfl (o_gS rfl rfl rfl rfl rfl (o_gS rfl rfl rfl rfl rfl ?_)))
         refine zV [(1,U.box 0 0),(49,.bool false),(52,U.tup [])] [] ([SB.box (Bk.cs b)]) (.cons rfl (.cons rfl (.cons rfl (.nil rfl)))) rfl rfl fun fr=>?_
         refine o_gS rfl rfl rfl rfl rfl (zN rfl rfl rfl ?_)
         refine zB rfl (zA ?_)
         subst_vars;exact⟨rfl,rfl,.cons rfl (.cons (by rw[‹decide ((b.beats.length:Int)=4)=true›];rfl) (.nil rfl))⟩
       ·refine o_gS rfl rfl rfl rfl (by assumption) ?_
        refine o_gS rfl rfl rfl rfl (by assumption) (zN rfl rfl (by assumption) ?_)
        refine zC rfl (o_gS rfl rfl rfl rfl rfl ?_)
        refine zV [(1,U.box 0 0),(42,.bool false),(43,U.tup [])] [] ([SB.box (Bk.cs b)]) (.cons rfl (.cons rfl (.cons rfl (.nil rfl)))) rfl rfl fun fr=>?_
        refine o_gS rfl rfl rfl rfl rfl (o_gS rfl rfl rfl rfl rfl (o_gS rfl rfl rfl rfl rfl (o_gS rfl rfl rfl rfl rfl (zN rfl rfl rfl ?_))))
        refine zC rfl (o_gS rfl rfl rfl rfl rfl (o_gS rfl rfl rfl rfl rfl (o_gS rfl rfl rfl rfl rfl ?_)))
        refine zV [(1,U.box 0 0),(49,.bool false),(52,U.tup [])] [] ([SB.box (Bk.cs b)]) (.cons rfl (.cons rfl (.cons rfl (.nil rfl)))) rfl rfl fun fr=>?_
        refine o_gS rfl rfl rfl rfl rfl (zN rfl rfl rfl ?_)
        refine zB rfl (zA ?_)
        subst_vars;exact⟨rfl,rfl,.cons rfl (.cons (by rw[‹decide ((b.beats.length:Int)=4)=true›];rfl) (.nil rfl))⟩
      ·refine o_gS rfl rfl rfl rfl (by assumption) ?_
       refine zV [(1,U.box 0 0),(32,U.bool z5),(34,U.tup [])] [] ([SB.box (Bk.cs b)]) (.cons rfl (.cons rfl (.cons rfl (.nil rfl)))) rfl rfl fun fr=>?_
       refine o_gS rfl rfl rfl rfl (by assumption) (zN rfl rfl (by assumption) ?_)
       refine zC rfl (o_gS rfl rfl rfl rfl rfl (o_gS rfl rfl rfl rfl rfl (o_gS rfl rfl rfl rfl rfl (zN rfl rfl rfl ?_))))
       refine zC rfl (o_gS rfl rfl rfl rfl rfl ?_)
       refine zV [(1,U.box 0 0),(42,.bool false),(43,U.tup [])] [] ([SB.box (Bk.cs b)]) (.cons rfl (.cons rfl (.cons rfl (.nil rfl)))) rfl rfl fun fr=>?_
       refine o_gS rfl rfl rfl rfl rfl (o_gS rfl rfl rfl rfl rfl (o_gS rfl rfl rfl rfl rfl (o_gS rfl rfl rfl rfl rfl (zN rfl rfl rfl ?_))))
       refine zC rfl (o_gS rfl rfl rfl rfl rfl (o_gS rfl rfl rfl rfl rfl (o_gS rfl rfl rfl rfl rfl ?_)))
       refine zV [(1,U.box 0 0),(49,.bool false),(52,U.tup [])] [] ([SB.box (Bk.cs b)]) (.cons rfl (.cons rfl (.cons rfl (.nil rfl)))) rfl rfl fun fr=>?_
       refine o_gS rfl rfl rfl rfl rfl (zN rfl rfl rfl ?_)
       refine zB rfl (zA ?_)
       subst_vars;exact⟨rfl,rfl,.cons rfl (.cons (by rw[‹decide ((b.beats.length:Int)=4)=true›];rfl) (.nil rfl))⟩
     ·refine o_gS rfl rfl rfl rfl (by assumption) ?_
      refine o_gS rfl rfl rfl rfl (by assumption) (zN rfl rfl (by assumption) ?_)
      refine zC rfl (o_gS rfl rfl rfl rfl rfl (o_gS rfl rfl rfl rfl rfl ?_))
      refine zV [(1,U.box 0 0),(32,.bool false),(34,U.tup [])] [] ([SB.box (Bk.cs b)]) (.cons rfl (.cons rfl (.cons rfl (.nil rfl)))) rfl rfl fun fr=>?_
      refine o_gS rfl rfl rfl rfl rfl (zN rfl rfl rfl ?_)
      refine zC rfl (o_gS rfl rfl rfl rfl rfl (o_gS rfl rfl rfl rfl rfl (o_gS rfl rfl rfl rfl rfl (zN rfl rfl rfl ?_))))
      refine zC rfl (o_gS rfl rfl rfl rfl rfl ?_)
      refine zV [(1,U.box 0 0),(42,.bool false),(43,U.tup [])] [] ([SB.box (Bk.cs b)]) (.cons rfl (.cons rfl (.cons rfl (.nil rfl)))) rfl rfl fun fr=>?_
      refine o_gS rfl rfl rfl rfl rfl (o_gS rfl rfl rfl rfl rfl (o_gS rfl rfl rfl rfl rfl (o_gS rfl rfl rfl rfl rfl (zN rfl rfl rfl ?_))))
      refine zC rfl (o_gS rfl rfl rfl rfl rfl (o_gS rfl rfl rfl rfl rfl (o_gS rfl rfl rfl rfl rfl ?_)))
      refine zV [(1,U.box 0 0),(49,.bool false),(52,U.tup [])] [] ([SB.box (Bk.cs b)]) (.cons rfl (.cons rfl (.cons rfl (.nil rfl)))) rfl rfl fun fr=>?_
      refine o_gS rfl rfl rfl rfl rfl (zN rfl rfl rfl ?_)
      refine zB rfl (zA ?_)
      subst_vars;exact⟨rfl,rfl,.cons rfl (.cons (by rw[‹decide ((b.beats.length:Int)=4)=true›];rfl) (.nil rfl))⟩
    ·refine o_gS rfl rfl rfl rfl (by assumption) ?_
     refine o_gS rfl rfl rfl rfl (by assumption) ?_
     refine zV [(1,U.box 0 0),(22,U.bool (decide (↑(List.length (Bk.beats b))=(4:Int)))),(25,U.tup [])] [] ([SB.box (Bk.cs b)]) (.cons rfl (.cons rfl (.cons rfl (.nil rfl)))) rfl rfl fun fr=>?_
     refine zN rfl rfl (by assumption) ?_
     refine zC rfl (o_gS rfl rfl rfl rfl rfl (o_gS rfl rfl rfl rfl rfl (o_gS rfl rfl rfl rfl rfl (zN rfl rfl rfl ?_))))
     refine zC rfl (o_gS rfl rfl rfl rfl rfl (o_gS rfl rfl rfl rfl rfl ?_))
     refine zV [(1,U.box 0 0),(32,.bool false),(34,U.tup [])] [] ([SB.box (Bk.cs b)]) (.cons rfl (.cons rfl (.cons rfl (.nil rfl)))) rfl rfl fun fr=>?_
     refine o_gS rfl rfl rfl rfl rfl (zN rfl rfl rfl ?_)
     refine zC rfl (o_gS rfl rfl rfl rfl rfl (o_gS rfl rfl rfl rfl rfl (o_gS rfl rfl rfl rfl rfl (zN rfl rfl rfl ?_))))
     refine zC rfl (o_gS rfl rfl rfl rfl rfl ?_)
     refine zV [(1,U.box 0 0),(42,.bool false),(43,U.tup [])] [] ([SB.box (Bk.cs b)]) (.cons rfl (.cons rfl (.cons rfl (.nil rfl)))) rfl rfl fun fr=>?_
     refine o_gS rfl rfl rfl rfl rfl (o_gS rfl rfl rfl rfl rfl (o_gS rfl rfl rfl rfl rfl (o_gS rfl rfl rfl rfl rfl (zN rfl rfl rfl ?_))))
     refine zC rfl (o_gS rfl rfl rfl rfl rfl (o_gS rfl rfl rfl rfl rfl (o_gS rfl rfl rfl rfl rfl ?_)))
     refine zV [(1,U.box 0 0),(49,.bool false),(52,U.tup [])] [] ([SB.box (Bk.cs b)]) (.cons rfl (.cons rfl (.cons rfl (.nil rfl)))) rfl rfl fun fr=>?_
     refine o_gS rfl rfl rfl rfl rfl (zN rfl rfl rfl ?_)
     refine zB rfl (zA ?_)
     subst_vars;exact⟨rfl,rfl,.cons rfl (.cons (by rw[‹decide ((b.beats.length:Int)=4)=false›];rfl) (.nil rfl))⟩
   ·refine o_gS rfl rfl rfl rfl (by assumption) ?_
    refine o_gS rfl rfl rfl rfl (by assumption) (o_gS rfl rfl rfl rfl (by assumption) (zN rfl rfl (by assumption) ?_))
    refine zC rfl (o_gS rfl rfl rfl rfl rfl (o_gS rfl rfl rfl rfl rfl (o_gS rfl rfl rfl rfl rfl ?_)))
    refine zV [(1,U.box 0 0),(22,.bool false),(25,U.tup [])] [] ([SB.box (Bk.cs b)]) (.cons rfl (.cons rfl (.cons rfl (.nil rfl)))) rfl rfl fun fr=>?_
    refine zN rfl rfl rfl ?_
    refine zC rfl (o_gS rfl rfl rfl rfl rfl (o_gS rfl rfl rfl rfl rfl (o_gS rfl rfl rfl rfl rfl (zN rfl rfl rfl ?_))))
    refine zC rfl (o_gS rfl rfl rfl rfl rfl (o_gS rfl rfl rfl rfl rfl ?_))
    refine zV [(1,U.box 0 0),(32,.bool false),(34,U.tup [])] [] ([SB.box (Bk.cs b)]) (.cons rfl (.cons rfl (.cons rfl (.nil rfl)))) rfl rfl fun fr=>?_
    refine o_gS rfl rfl rfl rfl rfl (zN rfl rfl rfl ?_)
    refine zC rfl (o_gS rfl rfl rfl rfl rfl (o_gS rfl rfl rfl rfl rfl (o_gS rfl rfl rfl rfl rfl (zN rfl rfl rfl ?_))))
    refine zC rfl (o_gS rfl rfl rfl rfl rfl ?_)
    refine zV [(1,U.box 0 0),(42,.bool false),(43,U.tup [])] [] ([SB.box (Bk.cs b)]) (.cons rfl (.cons rfl (.cons rfl (.nil rfl)))) rfl rfl fun fr=>?_
    refine o_gS rfl rfl rfl rfl rfl (o_gS rfl rfl rfl rfl rfl (o_gS rfl rfl rfl rfl rfl (o_gS rfl rfl rfl rfl rfl (zN rfl rfl rfl ?_))))
    refine zC rfl (o_gS rfl rfl rfl rfl rfl (o_gS rfl rfl rfl rfl rfl (o_gS rfl rfl rfl rfl rfl ?_)))
    refine zV [(1,U.box 0 0),(49,.bool false),(52,U.tup [])] [] ([SB.box (Bk.cs b)]) (.cons rfl (.cons rfl (.cons rfl (.nil rfl)))) rfl rfl fun fr=>?_
    refine o_gS rfl rfl rfl rfl rfl (zN rfl rfl rfl ?_)
    refine zB rfl (zA ?_)
    subst_vars;exact⟨rfl,rfl,.cons rfl (.cons rfl (.nil rfl))⟩
  ·refine o_gS rfl rfl rfl rfl (by assumption) ?_
   refine o_gS rfl rfl rfl rfl (by assumption) (zN rfl rfl (by assumption) ?_)
   refine zC rfl ?_
   refine zV [(1,U.box 0 0),(16,.bool false)] [] ([SB.box (Bk.cs b)]) (.cons rfl (.cons rfl (.nil rfl))) rfl rfl fun fr=>?_
   refine o_gS rfl rfl rfl rfl rfl (o_gS rfl rfl rfl rfl rfl (o_gS rfl rfl rfl rfl rfl (o_gS rfl rfl rfl rfl rfl (zN rfl rfl rfl ?_))))
   refine zC rfl (o_gS rfl rfl rfl rfl rfl (o_gS rfl rfl rfl rfl rfl (o_gS rfl rfl rfl rfl rfl ?_)))
   refine zV [(1,U.box 0 0),(22,.bool false),(25,U.tup [])] [] ([SB.box (Bk.cs b)]) (.cons rfl (.cons rfl (.cons rfl (.nil rfl)))) rfl rfl fun fr=>?_
   refine zN rfl rfl rfl ?_
   refine zC rfl (o_gS rfl rfl rfl rfl rfl (o_gS rfl rfl rfl rfl rfl (o_gS rfl rfl rfl rfl rfl (zN rfl rfl rfl ?_))))
   refine zC rfl (o_gS rfl rfl rfl rfl rfl (o_gS rfl rfl rfl rfl rfl ?_))
   refine zV [(1,U.box 0 0),(32,.bool false),(34,U.tup [])] [] ([SB.box (Bk.cs b)]) (.cons rfl (.cons rfl (.cons rfl (.nil rfl)))) rfl rfl fun fr=>?_
   refine o_gS rfl rfl rfl rfl rfl (zN rfl rfl rfl ?_)
   refine zC rfl (o_gS rfl rfl rfl rfl rfl (o_gS rfl rfl rfl rfl rfl (o_gS rfl rfl rfl rfl rfl (zN rfl rfl rfl ?_))))
   refine zC rfl (o_gS rfl rfl rfl rfl rfl ?_)
   refine zV [(1,U.box 0 0),(42,.bool false),(43,U.tup [])] [] ([SB.box (Bk.cs b)]) (.cons rfl (.cons rfl (.cons rfl (.nil rfl)))) rfl rfl fun fr=>?_
   refine o_gS rfl rfl rfl rfl rfl (o_gS rfl rfl rfl rfl rfl (o_gS rfl rfl rfl rfl rfl (o_gS rfl rfl rfl rfl rfl (zN rfl rfl rfl ?_))))
   refine zC rfl (o_gS rfl rfl rfl rfl rfl (o_gS rfl rfl rfl rfl rfl (o_gS rfl rfl rfl rfl rfl ?_)))
   refine zV [(1,U.box 0 0),(49,.bool false),(52,U.tup [])] [] ([SB.box (Bk.cs b)]) (.cons rfl (.cons rfl (.cons rfl (.nil rfl)))) rfl rfl fun fr=>?_
   refine o_gS rfl rfl rfl rfl rfl (zN rfl rfl rfl ?_)
   refine zB rfl (zA ?_)
   subst_vars;exact⟨rfl,rfl,.cons rfl (.cons rfl (.nil rfl))⟩
 obtain⟨hst,hs⟩:=hM
 refine k_cut (fun st=>st.st=[.box (Bk.cs b)]∧Holds st [(1,.box 0 0),(3,.bool (ckA b&&b.beats.all (inS 1 1000)))]) ?_ (fun st hM=>?_)
 ·cases hc:ckA b with
  |false=>
   rw[hc]at hs
   refine zH _ _ hs hst fun fr=>?_
   refine kQ (zB rfl (zA (zL ?_)))
   refine yh (fun _ s2=>s2.st=[.box (Bk.cs b)]∧Holds s2 [(1,.box 0 0),(3,.bool false),(4,.int .i64 0)]) (fun kk s2 hI=>?_) 0 _ ⟨rfl,.cons rfl (.cons rfl (.cons rfl (.nil rfl)))⟩
   obtain⟨hst2,hs2⟩:=hI
   refine zH _ _ hs2 hst2 fun fr2=>?_
   refine k_seq (kQ (zC rfl (zC rfl (o_gS rfl rfl rfl rfl rfl (o_gS rfl rfl rfl rfl rfl (zN rfl rfl rfl ?_))))))
   refine zA (k_cF rfl rfl ?_)
   refine yP ?_
   exact⟨rfl,rfl,.cons rfl (.cons rfl (.nil rfl))⟩
  |true=>
   rw[hc]at hs
   have h4:b.beats.length=4:=by
    unfold ckA at hc
    simp only[Bool.and_eq_true,decide_eq_true_eq]at hc
    omega
   refine zH _ _ hs hst fun fr=>?_
   refine kQ (zB rfl (zA (zL ?_)))
   refine yh (fun kk s2=>∃i:Nat,kk+i=4∧s2.st=[.box (Bk.cs b)]∧Holds s2 [(1,.box 0 0),(3,.bool ((b.beats.take i).all (inS 1 1000))),(4,.int .i64 i)]) (fun kk s2 hI=>?_) 4 _ ⟨0,rfl,rfl,.cons rfl (.cons rfl (.cons rfl (.nil rfl)))⟩
   obtain⟨i,hk,hst2,hs2⟩:=hI
   cases hz:(b.beats.take i).all (inS 1 1000)with
   |false=>
    rw[hz]at hs2
    have hall:b.beats.all (inS 1 1000)=false:=by
     rw[List.all_eq_false]at hz ⊢
     obtain⟨x,h1,h2⟩:=hz
     exact⟨x,List.mem_of_mem_take h1,h2⟩
    rw[hall]
    refine zH _ _ hs2 hst2 fun fr2=>?_
    refine k_seq (kQ (zC rfl (zC rfl (o_gS rfl rfl rfl rfl rfl (o_gS rfl rfl rfl rfl rfl (zN rfl rfl rfl ?_))))))
    refine zA (k_cF rfl rfl ?_)
    refine yP ?_
    exact⟨rfl,rfl,.cons rfl (.cons rfl (.nil rfl))⟩
   |true=>
    rw[hz]at hs2
    by_cases hin:i<4
    ·obtain⟨x,hx⟩:∃x,b.beats[i]? =some x:=⟨b.beats[i]'(by omega),List.getElem?_eq_getElem (by omega)⟩
     have q52:=zFQ (orc:=orc) hi x 1 1000
     have ht:=take_all (inS 1 1000) hx
     rw[hz,Bool.true_and]at ht
     refine zH _ _ hs2 hst2 fun fr2=>?_
     refine k_seq (kQ (zC rfl (zC rfl (o_gD rfl rfl rfl rfl rfl (zC rfl (o_gD rfl rfl rfl rfl rfl (zf rfl rfl rfl (za rfl rfl rfl ?_))))))))
     refine zA (k_cT rfl (decide_eq_true (by omega)) (zQ (k_seq (zL (k_region (zE rfl rfl zCy (zF rfl rfl rfl sh22 rfl (zC rfl ?_))))))))
     refine yD (u:=.int .i64 (x)) rfl ty22 rfl rfl (Int.natCast_nonneg _) (by simp[hx]) cl3 ?_
     refine zT rfl rfl sh3 rfl ?_
     refine zP rfl (q52) (.lrefl _) (zB rfl (zA ?_))
     refine zH [(1,U.box 0 0),(3,U.bool (inS (1:Int) (1000:Int) x)),(4,.int .i64 ↑i),(57,.int .i64 ↑i),(58,U.bool (decide (↑i<(4:Int))))] ([SB.box (Bk.cs b)]) (.c4 rfl rfl rfl rfl (.cons rfl (.nil rfl))) rfl fun fr=>?_
     refine k_region (zC rfl ?_)
     refine yO rfl rfl rfl (by unfold I64;omega) (zB rfl (zA ?_))
     exact⟨kk - 1,by omega,i+1,by omega,rfl,.cons rfl (.cons (by rw[ht];rfl) (.cons rfl (.nil rfl)))⟩
    ·rw[List.take_of_length_le (by omega)]at hz
     rw[hz]
     refine zH _ _ hs2 hst2 fun fr2=>?_
     refine k_seq (kQ (zC rfl (zC rfl (o_gD rfl rfl rfl rfl rfl (zC rfl (o_gD rfl rfl rfl rfl rfl (zf rfl rfl rfl (za rfl rfl rfl ?_))))))))
     refine zA (k_cF rfl (decide_eq_false (by omega)) (yP ?_))
     exact⟨rfl,rfl,.cons rfl (.cons rfl (.nil rfl))⟩
 obtain⟨hst,hs⟩:=hM
 rw[←ck_valid,←Bool.and_assoc]
 have hc5:(ckA b&&b.beats.all (inS 1 1000))=true→b.players.length≤5:=fun h=>by
  unfold ckA inS at h
  simp only[Bool.and_eq_true,decide_eq_true_eq]at h
  omega
 generalize (ckA b&&b.beats.all (inS 1 1000))=c at hs hc5
 refine k_cut (fun st=>Holds st [(1,.box 0 0),(3,.bool (c&&b.players.all ckP))]) ?_ (fun st hM=>?_)
 ·cases c with
  |false=>
   refine zH _ _ hs hst fun fr=>?_
   refine kQ (zB rfl (zA (zL ?_)))
   refine yh (fun _ s2=>s2.st=[.box (Bk.cs b)]∧Holds s2 [(1,.box 0 0),(3,.bool false),(5,.int .i64 0)]) (fun kk s2 hI=>?_) 0 _ ⟨rfl,.cons rfl (.cons rfl (.cons rfl (.nil rfl)))⟩
   obtain⟨hst2,hs2⟩:=hI
   refine zH _ _ hs2 hst2 fun fr2=>?_
   refine k_seq (kQ (zC rfl (zC rfl (o_gS rfl rfl rfl rfl rfl (o_gS rfl rfl rfl rfl rfl (o_gS rfl rfl rfl rfl rfl (o_gS rfl rfl rfl rfl rfl (o_gS rfl rfl rfl rfl rfl ?_))))))))
   refine zN rfl rfl rfl ?_
   refine zA (k_cF rfl rfl ?_)
   refine yP ?_
   exact⟨rfl,.cons rfl (.cons rfl (.nil rfl))⟩
  |true=>
   have h5:=hc5 rfl
   refine zH _ _ hs hst fun fr=>?_
   refine kQ (zB rfl (zA (zL ?_)))
   obtain⟨V,hV⟩:∃V:List SB,V=[.box (Bk.cs b)]:=⟨_,rfl⟩
   refine yh (fun kk s2=>∃i:Nat,kk+i=b.players.length∧(∃e,s2.st=V++e)∧Holds s2 [(1,.box 0 0),(3,.bool ((b.players.take i).all ckP)),(5,.int .i64 i)]) (fun kk s2 hI=>?_) b.players.length _ ⟨0,by omega,⟨[],by rw[hV];rfl⟩,.cons rfl (.cons rfl (.cons rfl (.nil rfl)))⟩
   obtain⟨i,hk,⟨e,hst2⟩,hs2⟩:=hI
   generalize hY:V++e=Y at hst2
   have y0:Y[0]? =some (SB.box (Bk.cs b)):=by rw[←hY,hV];rfl
   cases hz:(b.players.take i).all ckP with
   |false=>
    rw[hz]at hs2
    have hall:b.players.all ckP=false:=by
     rw[List.all_eq_false]at hz ⊢
     obtain⟨x,h1,h2⟩:=hz
     exact⟨x,List.mem_of_mem_take h1,h2⟩
    rw[hall]
    refine zH _ _ hs2 hst2 fun fr2=>?_
    refine k_seq (kQ (zC rfl (zC rfl (o_gS rfl rfl rfl rfl rfl (o_gS rfl rfl rfl rfl rfl (o_gS rfl rfl rfl rfl rfl (o_gS rfl rfl rfl rfl rfl (o_gS rfl rfl rfl rfl rfl ?_))))))))
    refine zN rfl rfl rfl ?_
    refine zA (k_cF rfl rfl ?_)
    refine yP ?_
    exact⟨rfl,.cons rfl (.cons rfl (.nil rfl))⟩
   |true=>
    rw[hz]at hs2
    by_cases hin:i<b.players.length
    ·obtain⟨p,hp⟩:∃p,b.players[i]? =some p:=⟨b.players[i]'(by omega),List.getElem?_eq_getElem (by omega)⟩
     have q59:=ret59 (orc:=orc) hi p.la p.lb 0 500
     have ht:=take_all ckP hp
     rw[hz,Bool.true_and]at ht
     refine zH _ _ hs2 hst2 fun fr2=>?_
     refine k_seq (kQ (zC rfl (zC rfl (o_gD rfl rfl rfl rfl rfl (zC rfl (o_gD rfl rfl rfl rfl rfl (zE rfl rfl yd (o_gD rfl rfl rfl rfl rfl ?_))))))))
     refine zF rfl rfl y0 sh25 rfl ?_
     refine o_gD rfl rfl rfl rfl rfl (yF rfl ty25 rfl (List.length_map _) ?_)
     refine o_gD rfl rfl rfl rfl rfl (zf rfl rfl rfl (za rfl rfl rfl ?_))
     refine zA (k_cT rfl (decide_eq_true (by omega)) (zQ (k_seq (zL (kQ (zE rfl rfl yd (zF rfl rfl y0 sh25 rfl ?_)))))))
     refine zC rfl (yD (u:=(p).u) rfl ty25 rfl rfl (Int.natCast_nonneg _) (by simp[hp]) cl68 ?_)
     refine wJ rfl rfl sh68 rfl ?_
     refine zi rfl ze68 ?_
     refine zZ rfl (zp _ _) sh68 rfl rfl rfl rfl rfl ?_
     refine zA ?_
     refine zH [(1,.box 0 0),(5,.int .i64 i),(6,.box Y.length 0)] (Y++[.box p.cs]) (.cons rfl (.cons rfl (.cons rfl (.nil rfl)))) (by show(Y++[SB.box _]).set Y.length (SB.box _)=_;rw[yx];rfl) fun fr3=>?_
     have y1:(Y++[SB.box p.cs])[Y.length]? =some (.box p.cs):=zp _ _
     have hcp:ckP p=((zBp p.la p.lb 0 500&&decide ((p.cat.length:Int)=4))&&p.cat.all fun c=>zBp c.a c.b 0 100):=by unfold ckP;rw[Bool.and_assoc]
     refine k_cut (fun st=>st.st=Y++[.box p.cs]∧Holds st [(1,.box 0 0),(3,.bool (zBp p.la p.lb 0 500&&decide ((p.cat.length:Int)=4))),(5,.int .i64 i),(6,.box Y.length 0)]) ?_ (fun st hM=>?_)
     ·generalize zBp p.la p.lb 0 500=g at*
      cases g with
      |false=>
       refine k_region (zE rfl rfl zCw (zJ rfl rfl y1 sh24 rfl ?_))
       refine zP rfl (q59) (.lrefl _) (zC rfl (o_gS rfl rfl rfl rfl rfl (o_gS rfl rfl rfl rfl rfl (o_gS rfl rfl rfl rfl rfl (o_gS rfl rfl rfl rfl rfl (zN rfl rfl rfl ?_))))))
       refine zB rfl (zA ?_)
       exact⟨rfl,rfl,.c4 rfl rfl rfl rfl (.nil rfl)⟩
      |true=>
       refine k_region (zE rfl rfl zCw (zJ rfl rfl y1 sh24 rfl ?_))
       refine zP rfl (q59) (.lrefl _) (zC rfl (o_gD rfl rfl rfl rfl rfl (zE rfl rfl zCv (o_gD rfl rfl rfl rfl rfl (zF rfl rfl y1 sh66 rfl ?_)))))
       refine o_gD rfl rfl rfl rfl rfl (yF rfl ty66 rfl (List.length_map _) ?_)
       refine o_gD rfl rfl rfl rfl rfl (zAt rfl rfl rfl (za rfl rfl rfl ?_))
       refine zB rfl (zA ?_)
       exact⟨rfl,rfl,.c4 rfl rfl rfl rfl (.nil rfl)⟩
     obtain⟨hst3,hs3⟩:=hM
     have hl4:(zBp p.la p.lb 0 500&&decide ((p.cat.length:Int)=4))=true→p.cat.length=4:=fun h=>by
      rw[Bool.and_eq_true,decide_eq_true_iff]at h;omega
     generalize (zBp p.la p.lb 0 500&&decide ((p.cat.length:Int)=4))=g at*
     cases g with
     |false=>
      refine zH _ _ hs3 hst3 fun fr3=>?_
      refine kQ (zB rfl (zA (zL ?_)))
      refine yh (fun _ s2=>s2.st=Y++[.box p.cs]∧Holds s2 [(1,.box 0 0),(3,.bool false),(5,.int .i64 i)]) (fun mm s2 hI=>?_) 0 _ ⟨rfl,.cons rfl (.cons rfl (.cons rfl (.nil rfl)))⟩
      obtain⟨hst4,hs4⟩:=hI
      refine zH _ _ hs4 hst4 fun fr4=>?_
      refine k_seq (kQ (zC rfl (zC rfl (o_gS rfl rfl rfl rfl rfl (o_gS rfl rfl rfl rfl rfl (zN rfl rfl rfl ?_))))))
      refine zA (k_cF rfl rfl ?_)
      refine yP (k_region (zC rfl ?_))
      refine yO rfl rfl rfl (by unfold I64;omega) (zB rfl (zA ?_))
      exact⟨kk - 1,by omega,i+1,by omega,⟨_,grow hY⟩,.cons rfl (.cons (by rw[ht,hcp];rfl) (.cons rfl (.nil rfl)))⟩
     |true=>
      have h4:=hl4 rfl
      rw[Bool.true_and]at hcp
      refine zH _ _ hs3 hst3 fun fr3=>?_
      refine kQ (zB rfl (zA (zL ?_)))
      refine yh (fun mm s2=>∃j:Nat,mm+j=4∧s2.st=Y++[.box p.cs]∧Holds s2 [(1,.box 0 0),(3,.bool ((p.cat.take j).all fun c=>zBp c.a c.b 0 100)),(5,.int .i64 i),(6,.box Y.length 0),(7,.int .i64 j)]) (fun mm s2 hI=>?_) 4 _ ⟨0,rfl,rfl,.c4 rfl rfl rfl rfl (.cons rfl (.nil rfl))⟩
      obtain⟨j,hj,hst4,hs4⟩:=hI
      cases hw:((p.cat.take j).all fun c=>zBp c.a c.b 0 100)with
      |false=>
       rw[hw]at hs4
       have hall:(p.cat.all fun c=>zBp c.a c.b 0 100)=false:=by
        rw[List.all_eq_false]at hw ⊢
        obtain⟨x,h1,h2⟩:=hw
        exact⟨x,List.mem_of_mem_take h1,h2⟩
       refine zH _ _ hs4 hst4 fun fr4=>?_
       refine k_seq (kQ (zC rfl (zC rfl (o_gS rfl rfl rfl rfl rfl (o_gS rfl rfl rfl rfl rfl (zN rfl rfl rfl ?_))))))
       refine zA (k_cF rfl rfl ?_)
       refine yP (k_region (zC rfl ?_))
       refine yO rfl rfl rfl (by unfold I64;omega) (zB rfl (zA ?_))
       exact⟨kk - 1,by omega,i+1,by omega,⟨_,grow hY⟩,.cons rfl (.cons (by rw[ht,hcp,hall];rfl) (.cons rfl (.nil rfl)))⟩
      |true=>
       rw[hw]at hs4
       by_cases hjn:j<4
       ·obtain⟨c,hc⟩:∃c,p.cat[j]? =some c:=⟨p.cat[j]'(by omega),List.getElem?_eq_getElem (by omega)⟩
        have q59:=ret59 (orc:=orc) hi c.a c.b 0 100
        have ht2:=take_all (fun c:Two=>zBp c.a c.b 0 100) hc
        rw[hw,Bool.true_and]at ht2
        refine zH _ _ hs4 hst4 fun fr4=>?_
        refine k_seq (kQ (zC rfl (zC rfl (o_gD rfl rfl rfl rfl rfl (zC rfl (o_gD rfl rfl rfl rfl rfl (zf rfl rfl rfl (za rfl rfl rfl ?_))))))))
        refine zA (k_cT rfl (decide_eq_true (by omega)) (zQ (k_seq (zL (k_region (zE rfl rfl zCv (zF rfl rfl y1 sh66 rfl ?_)))))))
        refine zC rfl (yD (u:=(c).u) rfl ty66 rfl rfl (Int.natCast_nonneg _) (by simp[hc]) cl24 ?_)
        refine wJ rfl rfl sh24 rfl ?_
        refine zP rfl (q59) (.lrefl _) (zB rfl (zA ?_))
        refine zH [(1,U.box 0 0),(3,U.bool (zBp c.a c.b (0:Int) (100:Int))),(5,.int .i64 ↑i),(6,U.box (List.length Y) 0),(7,.int .i64 ↑j),(94,.int .i64 ↑j),(95,U.bool (decide (↑j<(4:Int))))] (Y++[SB.box (Pl.cs p)]) (.c4 rfl rfl rfl rfl (.cons rfl (.cons rfl (.cons rfl (.nil rfl))))) rfl fun fr=>?_
        refine k_region (zC rfl ?_)
        refine yO rfl rfl rfl (by unfold I64;omega) (zB rfl (zA ?_))
        exact⟨mm - 1,by omega,j+1,by omega,rfl,.cons rfl (.cons (by rw[ht2];rfl) (.cons rfl (.cons rfl (.cons rfl (.nil rfl)))))⟩
       ·rw[List.take_of_length_le (by omega)]at hw
        refine zH _ _ hs4 hst4 fun fr4=>?_
        refine k_seq (kQ (zC rfl (zC rfl (o_gD rfl rfl rfl rfl rfl (zC rfl (o_gD rfl rfl rfl rfl rfl (zf rfl rfl rfl (za rfl rfl rfl ?_))))))))
        refine zA (k_cF rfl (decide_eq_false (by omega)) (yP (k_region (zC rfl ?_))))
        refine yO rfl rfl rfl (by unfold I64;omega) (zB rfl (zA ?_))
        exact⟨kk - 1,by omega,i+1,by omega,⟨_,grow hY⟩,.cons rfl (.cons (by rw[ht,hcp,hw];rfl) (.cons rfl (.nil rfl)))⟩
    ·rw[List.take_of_length_le (by omega)]at hz
     rw[hz]
     refine zH _ _ hs2 hst2 fun fr2=>?_
     refine k_seq (kQ (zC rfl (zC rfl (o_gD rfl rfl rfl rfl rfl (zC rfl (o_gD rfl rfl rfl rfl rfl (zE rfl rfl yd (o_gD rfl rfl rfl rfl rfl ?_))))))))
     refine zF rfl rfl y0 sh25 rfl ?_
     refine o_gD rfl rfl rfl rfl rfl (yF rfl ty25 rfl (List.length_map _) ?_)
     refine o_gD rfl rfl rfl rfl rfl (zf rfl rfl rfl (za rfl rfl rfl ?_))
     refine zA (k_cF rfl (decide_eq_false (by omega)) (yP ?_))
     exact⟨rfl,.cons rfl (.cons rfl (.nil rfl))⟩
 have hs:=hM
 generalize (c&&b.players.all ckP)=w at hs
 refine zH _ _ hs rfl fun fr=>?_
 cases w with
 |false=>
  refine k_seq (kQ (zC rfl (yu rfl rfl (zA (k_cT rfl rfl ?_)))))
  refine kQ (zB rfl (zA (zU ?_)))
  refine⟨.inr rfl,_,.cons _ _ _ _ (.tmp 2) .nil,?_⟩
  exact .refl _
  done
 |true=>
  refine k_seq (kQ (zC rfl (yu rfl rfl (zA (k_cF rfl rfl ?_)))))
  refine zQ (kQ (zB rfl (zA (zU ?_))))
  refine⟨.inr rfl,_,.cons _ _ _ _ (.tmp 2) .nil,?_⟩
  exact .refl _
  done
end Go.Proofs.YtfbmlibilcjlgaaDoor.drumBounds
