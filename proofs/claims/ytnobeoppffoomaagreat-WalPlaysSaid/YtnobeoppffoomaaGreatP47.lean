/-
  WalPlays: ODd.
  Conditions: named in each theorem.
-/
import Derived.Test.YtnobeoppffoomaaGreatP46
import Derived.Test.YtnobeoppffoomaaGreatP44
import Derived.WalkKit
import Derived.ProofKit
import Derived.OpenShut
import Derived.SizedLaws
import Derived.Carry
import Derived.ChangeSame
import Derived.Deep.Slices
import Derived.Test.YtnobeoppffoomaaGreatP0
set_option linter.unusedVariables false
set_option linter.unusedSimpArgs false
set_option maxHeartbeats 8000000
set_option maxRecDepth 100000
namespace Go.Proofs.YtnobeoppffoomaaGreat
open Go.ChangeShapes Go.WideShapes Go.ChangeAt Go.RowKit Dk
theorem dcells3:Tryz.prog.cellsOf 3=1:=by kernel_rfl
theorem dcells5:Tryz.prog.cellsOf 5=1:=by kernel_rfl
theorem dcells9:Tryz.prog.cellsOf 9=1:=by kernel_rfl
theorem dcells22:Tryz.prog.cellsOf 22=1:=by kernel_rfl
theorem dcells48:Tryz.prog.cellsOf 48=1:=by kernel_rfl
theorem dcells40:Tryz.prog.cellsOf 40=3:=by kernel_rfl
theorem dcells50:Tryz.prog.cellsOf 50=5:=by kernel_rfl
theorem open_rg {H:Type} {enc:TypeId×Value→H} {w:World} {base base0:Nat} {r:Reach} {sp:Nat→Bool} {held:Bool} {v:Value} {d:DataW H} {p:List MemPlace}
 (hv:Value.okWide Tryz.prog w r base0 40 v) (h:DataW.Trod enc Tryz.prog w base sp held 40 v d p):∃ a m u:Int,v=RG a m u∧InI a∧InI m∧InI u:=by
 obtain ⟨cs,rfl,hsz⟩:=okWide_struct Tryz.underlying40 hv
 rw [dcells40] at hsz
 obtain ⟨fuel,hf⟩:=h
 obtain ⟨xs,n,_,_,hl,hlen,hf⟩:=DataW.trod_struct Tryz.underlying40 hf
 obtain ⟨l⟩:=cs
 match l,hsz,xs,hlen with
 | [c0,c1,c2],_,[y0,y1,y2],_ =>
   have t0:=hf 0 _ rfl
   have t1:=hf 1 _ rfl
   have t2:=hf 2 _ rfl
   simp [Value.cells,dcells3] at t0 t1 t2
   obtain ⟨u0,h0,_,k0⟩:=DataW.trod_int Tryz.underlying3 t0
   obtain ⟨u1,h1,_,k1⟩:=DataW.trod_int Tryz.underlying3 t1
   obtain ⟨u2,h2,_,k2⟩:=DataW.trod_int Tryz.underlying3 t2
   have b0:=bounds_i64 k0
   have b1:=bounds_i64 k1
   have b2:=bounds_i64 k2
   simp at h0 h1 h2
   subst h0 h1 h2
   exact ⟨u0,u1,u2,rfl,by unfold InI;omega,by unfold InI;omega,by unfold InI;omega⟩
theorem lt_of_celld {w:World} {a:Addr} {v:Value} (h:w.cell? a=some v):a.block<w.heap.size:=by
 rcases Nat.lt_or_ge a.block w.heap.size with h1|h1
 ·exact h1
 ·simp [World.cell?,Array.getElem?_eq_none h1] at h
theorem open_lostd {H:Type} {enc:TypeId×Value→H} {w:World} {base fuel:Nat} {A:Option Addr} {len cap:Nat} {held:Bool} {x:DataW H×List MemPlace}
 (h:DataW.trod enc Tryz.prog w base (fun _=>true) held fuel 48 [.slice A len cap]=some x):∃ lost:List Int,len=lost.length∧lost.length≤maxLen∧IntsAt w A lost:=by
 rcases Deep.open_slice1 Tryz.underlying48 dcells3 h with ⟨hc3,_⟩|⟨a3,l3,c3,m3,n3,V,D3,P3,hc3,_,hl3,hm3,hmm3,_,hx3⟩
 ·simp at hc3
  obtain ⟨rfl,rfl,rfl⟩:=hc3
  exact ⟨[],rfl,Nat.zero_le _,fun j x hj=>by simp at hj⟩
 ·simp at hc3
  obtain ⟨rfl,rfl,rfl⟩:=hc3
  simp only [if_true] at hmm3
  refine ⟨(List.range len).map (fun j=>match V j with|.int _ y=>y|_=>0),by simp,by simp;omega,fun j x hj=>?_⟩
  rw [List.getElem?_map] at hj
  obtain ⟨j',hj',rfl⟩:=Option.map_eq_some_iff.1 hj
  obtain ⟨hjl,hje⟩:=List.getElem?_eq_some_iff.1 hj'
  rw [List.getElem_range] at hje
  subst hje
  rw [List.length_range] at hjl
  obtain ⟨hcj,htj⟩:=hx3 j (by omega)
  obtain ⟨y,hy,_,hwy⟩:=DataW.trod_int Tryz.underlying3 htj
  simp at hy
  have hby:=bounds_i64 hwy
  rw [hy] at hcj ⊢
  exact ⟨by simpa using hby,a3,rfl,by have:=lt_of_celld hcj;rwa [paddr] at this,hcj⟩
theorem open_dd {H:Type} {enc:TypeId×Value→H} {w:World} {base fuel:Nat} {A:Option Addr} {len cap:Nat} {held:Bool} {x:DataW H×List MemPlace}
 (h:DataW.trod enc Tryz.prog w base (fun _=>true) held fuel 41 [.slice A len cap]=some x) (hz:∀ n∈x.1.weights Tryz.prog 41,n≤reachBytes):DdAt w A len∧(len:Int)≤9223372036854775807:=by
 rcases Deep.open_slice Tryz.underlying41 h with ⟨hcs,_⟩|⟨a,len',cap',m,n,D,Pl,hcs,_,hl,hm,hmm,hxx,hx⟩
 ·simp at hcs
  obtain ⟨rfl,rfl,rfl⟩:=hcs
  exact ⟨fun i hi=>by omega,by omega⟩
 ·simp at hcs
  obtain ⟨rfl,rfl,rfl⟩:=hcs
  simp only [if_true] at hmm
  refine ⟨fun i hi=>?_,by simp only [maxLen] at hm;omega⟩
  obtain ⟨cs',g1,g2⟩:=hx i (by omega)
  rw [dcells50] at g1
  obtain ⟨_,hlen,hcell⟩:=World.cells?_some g1
  obtain ⟨xs,k,hk,hxy,_,hxl,hf⟩:=DataW.trod_struct Tryz.underlying50 g2
  match xs,hxl,cs',hlen with
  | [y0,y1,y2,y3,y4],_,[v0,v1,v2,v3,v4],_ =>
    have t0:=hf 0 _ rfl
    have t1:=hf 1 _ rfl
    have t2:=hf 2 _ rfl
    have t3:=hf 3 _ rfl
    have t4:=hf 4 _ rfl
    simp [dcells3,dcells5,dcells9,dcells22,dcells48] at t0 t1 t2 t3 t4
    have e0:=hcell 0 (by omega)
    have e1:=hcell 1 (by omega)
    have e2:=hcell 2 (by omega)
    have e3:=hcell 3 (by omega)
    have e4:=hcell 4 (by omega)
    rw [Deep.add_add] at e0 e1 e2 e3 e4
    simp only [Prod.mk.injEq] at hxy
    obtain ⟨hD,_⟩:=hxy
    obtain ⟨u,hu,_,hw0⟩:=DataW.trod_int Tryz.underlying5 t0
    obtain ⟨z,hzz,_,hw1⟩:=DataW.trod_int Tryz.underlying3 t1
    obtain ⟨s,hs,_,_⟩:=DataW.trod_string Tryz.underlying9 t2
    have hb:=bounds_u8 hw0
    obtain ⟨kk,rfl⟩:=Int.eq_ofNat_of_zero_le hb.1
    have hz1:=bounds_i64 hw1
    simp at hu hzz hs
    subst hu hzz hs
    have hv3:∃ A1 n1 c1,v3=.slice A1 n1 c1:=by
     rcases Deep.open_slice Tryz.underlying22 t3 with ⟨hc3,_⟩|⟨a3,l3,c3,m3,n3,D3,P3,hc3,_⟩
     ·simp at hc3;exact ⟨_,_,_,hc3⟩
     ·simp at hc3;exact ⟨_,_,_,hc3⟩
    have hv4:∃ A1 n1 c1,v4=.slice A1 n1 c1:=by
     rcases Deep.open_slice1 Tryz.underlying48 dcells3 t4 with ⟨hc3,_⟩|⟨a3,l3,c3,m3,n3,V,D3,P3,hc3,_⟩
     ·simp at hc3;exact ⟨_,_,_,hc3⟩
     ·simp at hc3;exact ⟨_,_,_,hc3⟩
    obtain ⟨A1,n1,c1,rfl⟩:=hv3
    obtain ⟨A2,n2,c2,rfl⟩:=hv4
    obtain ⟨Lm,k1,k2,k3⟩:=open_mades t3 (fun n hn=>hz n (by
     rw [hxx]
     refine weights_mem_slice Tryz.underlying41 (d:=D i) (List.mem_map.2 ⟨i,List.mem_range.2 hi,rfl⟩) n ?_
     rw [hD]
     exact DataW.weights_mem_agg Tryz.underlying50 3 rfl rfl n hn))
    obtain ⟨lost,rfl,l1,l2⟩:=open_lostd t4
    have hst:txt s.data.toList=s:=by apply ByteArray.ext;apply Array.toList_inj.1;rw [txt_list]
    refine ⟨a,kk,z,s.data.toList,A1,n1,c1,A2,lost,c2,Lm,rfl,by have:=lt_of_celld e0;rwa [paddr] at this,by omega,by unfold InI;omega,⟨k1,k2,k3⟩,⟨l1,l2⟩,by simpa using e0,by simpa using e1,by rw [hst];simpa using e2,by simpa using e3,by simpa using e4⟩
end Go.Proofs.YtnobeoppffoomaaGreat
