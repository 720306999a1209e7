import Derived.Test.YtpckmojdekdbbaaGreatVamT9
set_option linter.unusedVariables false
set_option linter.unusedSimpArgs false
set_option linter.constructorNameAsVariable false
namespace Go.Proofs.YtpckmojdekdbbaaGreat.settles
open Vam
variable {is:FuncId→Bool}{orc:Known}{z:Zt}
theorem by68:Program.bytesOf Tryz.prog 68=32:=by kernel_rfl
theorem ze27:yZ Tryz.prog 27=some ((.cons (.int .i64 0) (.cons .nils (.cons .nils (.cons .nils (.cons .nils .nil))))):V):=by kernel_rfl
theorem ap25_25:AppT Tryz.prog 25 25 68 4 32 ((.cons (.int .i64 0) (.cons (.int .i64 0) (.cons (.int .i64 0) (.cons (.int .i64 0) .nil)))):V):=⟨ty25,⟨_,ty25⟩,cl68,by decide,by68,ze68,rfl⟩
theorem tru_iff(h:ZOk z):truB z=true↔ ∀k,k<z.keys.length→trueK z k:=by
 unfold truB trueK
 rw[List.all_eq_true]
 have e:∀k,(!conB (pitS z k) (z.yrs.toNat+1))=true↔ ∀y,y≤z.yrs.toNat→(pitS z k y).1≤(pitS z k y).2:=fun k=>by
  rw[Bool.not_eq_true',con_iff]
  exact⟨fun h y hy=>h y (by omega),fun h y hy=>h y (by omega)⟩
 constructor
 ·intro h2 k hk;exact(e k).1 (h2 k (List.mem_range.2 hk))
 ·intro h2 k hk;exact(e k).2 (h2 k (List.mem_range.1 hk))
theorem was_wider{w:Zt}(h:ZOk z)(hw:ZOk w)(hy:z.yrs=w.yrs)(hk:z.keys.length=w.keys.length)(hr:∀k r,k<z.keys.length→Row z k r→Row w k r){k y:Int}(h0:wasE z k y=0):wasE w k y=0∧(wasR w k y).1≤(wasR z k y).1∧(wasR z k y).2≤(wasR w k y).2:=by
 obtain⟨_,⟨⟨hk0,hk1⟩,hy0,hy1⟩,ht⟩:=zGI.1 h0
 have ht:=(tru_iff h).1 ht
 have hp:=fun k hk'=>pit_wider h hw (k:=k) (j:=k) hk' (by omega) hy (fun r=>hr k r hk') (ht k hk')
 have hw0:wasE w k y=0:=zGI.2 ⟨hw,⟨⟨hk0,by omega⟩,hy0,by omega⟩,(tru_iff hw).2 fun j hj=>(hp j (by omega)).1⟩
 refine⟨hw0,?_⟩
 unfold wasR
 rw[if_pos h0,if_pos hw0]
 exact(hp k.toNat (by omega)).2 y.toNat (by omega)
theorem wasE_ok(h:ZOk z){k y:Int}(hk:0≤k∧k<z.keys.length)(hy:0≤y∧y≤z.yrs):wasE z k y=0∨wasE z k y=42:=by
 unfold wasE askT askV
 rw[zBq.2 h,spot_iff.2 ⟨hk,hy⟩]
 cases truB z<;>simp
theorem lks_one(l:List Lk):(zT (lksU l)).all oneU=true:=by
 rw[List.all_eq_true]
 intro u hu
 obtain⟨e,he,hu⟩:=List.mem_flatMap.1 hu
 obtain⟨x,_,rfl⟩:=List.mem_map.1 he
 simp only[zZ,List.mem_cons,List.not_mem_nil,or_false]at hu
 rcases hu with rfl|rfl|rfl|rfl<;>rfl
end Go.Proofs.YtpckmojdekdbbaaGreat.settles
