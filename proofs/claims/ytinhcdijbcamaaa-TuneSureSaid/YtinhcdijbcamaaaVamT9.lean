import Derived.Test.YtinhcdijbcamaaaVamT8
set_option linter.unusedVariables false
set_option linter.unusedSimpArgs false
set_option linter.constructorNameAsVariable false
namespace Go.Proofs.Ytinhcdijbcamaaa.tuneSure
open Vam
section
variable {t:Ts}{J:List Jn}{v x:Int}
abbrev TunT(t:Ts)(J:List Jn)(p:Int→Int):Prop:=Tun J (hloT t) (hhiT t) t.heard.length p
def TunE(t:Ts)(J:List Jn):Prop:=∃p,TunT t J p
theorem TOk.sok(h:TOk t):SOk t (yZ t):=by
 have hv:=(valid_iff t).2 h
 unfold yr at hv
 rw[Bool.and_eq_true,Bool.and_eq_true,Bool.and_eq_true,Bool.and_eq_true]at hv
 obtain⟨_,hB,hC,hD,_⟩:=hv
 have hj:=joins_ok h.n8 hB hC hD
 exact⟨h.n1,h.n8,h.hd,fun j hj'=>(hj j hj').1,fun j hj'=>(hj j hj').2,by have:=joins_len h.sh;omega,h.ac⟩
def InH(t:Ts)(v x:Int):Prop:=hloT t v≤x∧x≤hhiT t v
theorem ut_some{s:Bool}{i:Nat}(h:utI t J s v=some i):i<(hhiT t v+1 - hloT t v).toNat∧canS t J v (pI s (hloT t v) (hhiT t v) i) (-1)=true∧∀j,j<i→canS t J v (pI s (hloT t v) (hhiT t v) j) (-1)=false:=by
 unfold utI at h
 obtain⟨h1,xs,ys,h2,h3⟩:=List.find?_eq_some_iff_append.1 h
 have hm:i∈List.range (hhiT t v+1 - hloT t v).toNat:=by rw[h2];simp
 have hlt:=List.mem_range.1 hm
 have hlen:xs.length=i:=by
  have:=congrArg (fun l=>l[xs.length]?) h2
  rw[List.getElem?_append_right (Nat.le_refl _),Nat.sub_self]at this
  obtain⟨hl,he⟩:=List.getElem?_eq_some_iff.1 this
  rw[List.getElem_range]at he;exact he
 refine⟨hlt,h1,fun j hj=>?_⟩
 have hin:j∈xs:=by
  have h5:(List.range (hhiT t v+1 - hloT t v).toNat)[j]? =some j:=List.getElem?_range (by omega)
  rw[h2,List.getElem?_append_left (by omega)]at h5
  exact List.mem_of_getElem? h5
 have:=h3 j hin
 simpa using this
theorem pI_in{s:Bool}{i:Nat}(h:i<(hhiT t v+1 - hloT t v).toNat):InH t v (pI s (hloT t v) (hhiT t v) i):=by
 unfold InH;cases s<;>unfold pI<;>simp only<;>omega
def pX(s:Bool)(lo hi x:Int):Nat:=match s with|false=>(x - lo).toNat|true=>(hi - x).toNat
theorem pI_pX{s:Bool}{lo hi x:Int}(h:lo≤x∧x≤hi):pX s lo hi x<(hi+1 - lo).toNat∧pI s lo hi (pX s lo hi x)=x:=by cases s<;>unfold pI pX<;>simp only<;>omega
theorem ut_none{s:Bool}(h:utI t J s v=none):∀x,InH t v x→canS t J v x (-1)=false:=by
 intro x hx
 unfold utI at h
 rw[List.find?_eq_none]at h
 obtain⟨h1,h2⟩:=pI_pX (s:=s) hx
 have:=h _ (List.mem_range.2 h1)
 rw[h2]at this
 simpa using this
theorem tunB_iff(h:SOk t J):tunB t J=true↔TunE t J:=by
 unfold TunE
 rw[←h.jn.tunable_iff]
 unfold tunB
 rw[List.all_eq_true]
 constructor
 ·intro h1 v hv0 hv1
  have:=h1 v.toNat (List.mem_range.2 (by omega))
  rw[show((v.toNat:Nat):Int)=v by omega]at this
  obtain⟨i,hi⟩:=Option.isSome_iff_exists.1 this
  obtain⟨a,b,_⟩:=ut_some hi
  have:=pI_in (s:=false) a
  exact⟨_,this.1,this.2,b⟩
 ·intro h1 v hv
  obtain⟨x,a,b,c⟩:=h1 v (by omega) (by have:=List.mem_range.1 hv;omega)
  cases hu:utI t J false v with
  |some i=>rfl
  |none=>
   have:=ut_none hu x ⟨a,b⟩
   rw[show canS t J (v:Int) x (-1)=true from c]at this;cases this
theorem in_pos(h:SOk t J){a x:Int}(ha:0≤a∧a<(t.heard.length:Int))(hx:InH t a x):1≤x∧x≤4000:=by
 obtain⟨q,_,e1,e2,hq⟩:=h.key ha
 unfold InH at hx
 rw[e1,e2]at hx
 omega
end
section
variable {is:FuncId→Bool}{orc:Known}
theorem ze84:yR Try.prog 84=some ((.cons .nils (.cons .nils (.cons .nils (.cons (.int .i64 0) (.cons (.int .i64 0) (.cons .nils .nil)))))):V):=by kernel_rfl
variable {t:Ts}{J:List Jn}{v x:Int}
end
section
variable {is:FuncId→Bool}{orc:Known}
theorem pl84:plcOf Try.prog 84=some [(0,5),(5,1)]:=by kernel_rfl
noncomputable def b72:Code:=(Try.f72.body).getD .skip
theorem body72:bodyOf Try.prog 72=some (7,b72,[.cell 2 84]):=by kernel_rfl
theorem pure72:pureFn Try.prog 72=true:=by kernel_rfl
variable {t:Ts}{J:List Jn}{v x:Int}
theorem ret72(hi:Off is)(h:Sh t):RetP Try.prog is orc 72 [t.u] (.agg (setC t (yZ t))):=by
 have q51:=ret51 (orc:=orc) hi h
 refine yI body72 pure72 (hi 72 (by decide)) rfl rfl (dat_l1 (dat_ts t 4)) (.inl (dat_set _ _ _)) ?_
 refine kQ (yJ rfl rfl (zd rfl ze84 ?_))
 refine zA ?_
 refine zM [(1,U.box 0 0),(2,U.box 1 0)] ([SB.box t.cs,SB.box [.lst .full 0 [],.lst .full 0 [],.lst .full 0 [],.int .i64 0,.int .i64 0,.lst .full 0 []]]) (.cons rfl (.cons rfl (.nil rfl))) rfl fun fr=>?_
 refine k_seq (k_draw [.read true,.read true,.quiet,.plain,.plain] (by kernel_rfl) (by kernel_rfl) (by kernel_rfl) ?_)
 refine zO rfl (zL rfl rfl rfl sh28 rfl (zA rfl)) ?_
 refine zO rfl (zL rfl rfl rfl sh28 rfl (zA rfl)) ?_
 refine d_callQ rfl q51 (.lrefl _) ?_
 refine zD (yk rfl ze84 pl84 rfl rfl (zA rfl)) ?_
 refine zD (zV rfl rfl sh84 rfl rfl rfl rfl rfl (zA rfl)) ?_
 refine d_nil ?_
 refine zc ?_
 refine⟨.inr rfl,_,.cons _ _ _ _ (.cellN 2 84 _ _ _ _ rfl rfl sh84 rfl) .nil,?_⟩
 exact .refl _
abbrev z6:List U:=[.lst .full 0 [],.lst .full 0 [],.lst .full 0 [],.int .i64 0,.int .i64 0,.lst .full 0 []]
end
end Go.Proofs.Ytinhcdijbcamaaa.tuneSure
