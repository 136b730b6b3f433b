/-
  FrameCodes: part G12.
  Conditions: named in each theorem.
-/
import Derived.Test.YtpdbeijfchmlgaaGreatZ0
import Derived.Test.YtpdbeijfchmlgaaGreatG11
set_option linter.unusedVariables false
set_option linter.unusedSimpArgs false
set_option maxHeartbeats 16000000
set_option maxRecDepth 100000
namespace Go.Proofs.YtpdbeijfchmlgaaGreat
open Go.RowKit
theorem takeH01 {P:Program} {ops:Array Oper} {Q:Exit→Act→World→Prop} {S:World→Prop} {fuel:Nat} {listed:Array Bool} {a:Act} {w:World} (hQ:∀ (c:_) (a:Act) (d:Option Tmp) (v:Value) (w:World),Q (.panic c) (a.put d v) w→Q (.panic c) a w) (hS:S w) (i:Nat) {oi:Oper} {v:Value} (hi:ops[i]?=some oi)
 (hs:Region.noSelect ops=true) (hf:Region.free .any ops listed i=true) (hr:(Region.ready .any ops listed).contains i=true) (hy:YieldsIf P ops S oi v a)
 (h:wpAnyH P .any ops Q S fuel (listed.setIfInBounds i true) (a.put oi.dst v) w):wpAnyH P .any ops Q S (fuel+1) listed a w :=
 wpAnyH_take hi hs hf hr (fun c a w h=>hQ c a _ _ w h) hy hS h
theorem mright_01 (m:Ms) (w:World) (hE:Ents w.heap.size m.A m.n m.es w) (hn:(m.n:Int)≤9223372036854775807) (hok:∀ e∈m.es,e.Ok) (h1:m.frm<1) (h2:1≤m.dst) :
 Calls Tryz.prog 50 #[mv m] w fun r w'=>r=.returned (.bool (mrightB m))∧Below w.heap.size w w':=by
 have g1:decide (1≤m.frm)=false:=decide_eq_false (by omega);have g2:decide (1≤m.dst)=true:=decide_eq_true h2
 have hR:Hid (masksB m=(mfb m.kind&&(false&&(decide (m.dst≤7)&&(lim (mfl m.kind) 105 m.index 0 18446744073709551615&&(lim (mfl m.kind) 112 m.prev 0 18446744073709551615&&(lim (mfl m.kind) 116 m.commit 0 18446744073709551615&&(lim (mfl m.kind) 107 m.mark 0 18446744073709551615&&(lim (mfl m.kind) 121 (bitI m.ok) 0 1&&(lim (mfl m.kind) 101 (IntKind.u64.wrap m.n) 0 64&&(lim (mfl m.kind) 115 (IntKind.u64.wrap m.snap.size) 0 16384))))))))))):=by
  show _=_
  unfold masksB masks;rw [g1,g2];simp only [List.all_cons,List.all_nil,id,Bool.and_true,Bool.true_and,Bool.false_and]
 obtain ⟨wr,hW⟩:∃ wr,wr=(w.alloc (Obj.cells (mc m) 29)).alloc (Obj.cells #[Value.string (mfl m.kind)] 9):=⟨_,rfl⟩;have hb:Below w.heap.size w wr:=by rw [hW];exact zba.alloc (by simp) _
 have hwl:w.heap.size<wr.heap.size:=by rw [hW];simp;omega
 have hrow:∀ i,i<11→wr.cell? ⟨w.heap.size,i,none⟩=(mc m)[i]?:=fun i hi=>by
  rw [hW,World.cell?_alloc_lt _ _ _ (by simp),World.cell?_alloc_new]
 have c1:wr.cell? ⟨w.heap.size,1,none⟩=some (.int .i64 m.frm):=hrow 1 (by omega);have c2:wr.cell? ⟨w.heap.size,2,none⟩=some (.int .i64 m.dst):=hrow 2 (by omega);have c4:wr.cell? ⟨w.heap.size,4,none⟩=some (.int .u64 m.index):=hrow 4 (by omega);have c5:wr.cell? ⟨w.heap.size,5,none⟩=some (.int .u64 m.prev):=hrow 5 (by omega);have c6:wr.cell? ⟨w.heap.size,6,none⟩=some (.int .u64 m.commit):=hrow 6 (by omega);have c7:wr.cell? ⟨w.heap.size,7,none⟩=some (.int .u64 m.mark):=hrow 7 (by omega);have c8:wr.cell? ⟨w.heap.size,8,none⟩=some (.bool m.ok):=hrow 8 (by omega);have c9:wr.cell? ⟨w.heap.size,9,none⟩=some (.slice m.A m.n m.c):=hrow 9 (by omega);have c10:wr.cell? ⟨w.heap.size,10,none⟩=some (.string m.snap):=hrow 10 (by omega)
 have cL:wr.cell? ⟨w.heap.size+1,0,none⟩=some (.string (mfl m.kind)):=by
  have h:=World.cell?_alloc_new (w.alloc (Obj.cells (mc m) 29)) #[Value.string (mfl m.kind)] 9 0;rw [show (w.alloc (Obj.cells (mc m) 29)).heap.size=w.heap.size+1 by simp] at h;rw [hW,h];rfl
 have KC:=zh (fun (W:World) (hbW:Below w.heap.size w W)=>contains_any m.A m.n m.c m.es W ((hE.below hbW).mr hbW.size) hn hok);have HW:=zh hW;clear hrow hE hok
 go_enter Tryz.func50,Tryz.ntmps50
 go_wp2_with (first
  | (go_at_call 98;(with_reducible refine (mfields_any m.kind _).mono ?_);rintro r w' ⟨rfl,rfl⟩)
  | (go_at_call 99;(with_reducible refine (limits_any (mfl m.kind) _).mono ?_);rintro r w' ⟨rfl,rfl⟩))
 rw [←hW];clear hW;have cLd:wr.drew.cell? ⟨w.heap.size+1,0,none⟩=some (.string (mfl m.kind)):=cL;refine wp_region_noPanic ?_;refine wp_region_held_drew (S:=(fun w'=>w'.cell? ⟨w.heap.size,1,none⟩=some (.int .i64 m.frm)∧w'.cell? ⟨w.heap.size,2,none⟩=some (.int .i64 m.dst)∧w'.cell? ⟨w.heap.size,4,none⟩=some (.int .u64 m.index)∧w'.cell? ⟨w.heap.size,5,none⟩=some (.int .u64 m.prev)∧w'.cell? ⟨w.heap.size,6,none⟩=some (.int .u64 m.commit)∧w'.cell? ⟨w.heap.size,7,none⟩=some (.int .u64 m.mark)∧w'.cell? ⟨w.heap.size,8,none⟩=some (.bool m.ok)∧w'.cell? ⟨w.heap.size,9,none⟩=some (.slice m.A m.n m.c)∧w'.cell? ⟨w.heap.size,10,none⟩=some (.string m.snap)∧w'.cell? ⟨w.heap.size+1,0,none⟩=some (.string (mfl m.kind)))) (by kernel_rfl) (by exact ⟨c1,c2,c4,c5,c6,c7,c8,c9,c10,cL⟩) (fun hHeld=>?_);refine takeH01 (fun _ _ _ _ _ h=>h) (by assumption) 0 (v:=?v0) rfl (by kernel_rfl) (by kernel_rfl) (by kernel_rfl) (Or.inl ⟨by rfl,?hy0⟩) ?rest0
 case hy0=>(intro w hSw;(try dsimp only at hSw);go_simp;first|done|(with_reducible rfl))
 try simp only [Act.put,zA,zB,zC]
 refine takeH01 (fun _ _ _ _ _ h=>h) (by assumption) 1 (v:=?v1) rfl (by kernel_rfl) (by kernel_rfl) (by kernel_rfl) (Or.inl ⟨by rfl,?hy1⟩) ?rest1
 case hy1=>(intro w hSw;(try dsimp only at hSw);go_simp;first|done|(with_reducible rfl))
 try simp only [Act.put,zA,zB,zC]
 refine takeH01 (fun _ _ _ _ _ h=>h) (by assumption) 2 (v:=?v2) rfl (by kernel_rfl) (by kernel_rfl) (by kernel_rfl) (Or.inl ⟨by rfl,?hy2⟩) ?rest2
 case hy2=>(intro w hSw;(try dsimp only at hSw);go_simp;first|done|(with_reducible rfl))
 try simp only [Act.put,zA,zB,zC]
 refine takeH01 (fun _ _ _ _ _ h=>h) (by assumption) 3 (v:=?v3) rfl (by kernel_rfl) (by kernel_rfl) (by kernel_rfl) (Or.inl ⟨by rfl,?hy3⟩) ?rest3
 case hy3=>(intro w hSw;(try dsimp only at hSw);go_simp;first|done|(with_reducible rfl))
 try simp only [Act.put,zA,zB,zC]
 refine takeH01 (fun _ _ _ _ _ h=>h) (by assumption) 4 (v:=?v4) rfl (by kernel_rfl) (by kernel_rfl) (by kernel_rfl) (Or.inl ⟨by rfl,?hy4⟩) ?rest4
 case hy4=>(intro w hSw;(try dsimp only at hSw);go_simp;first|done|(with_reducible rfl))
 try simp only [Act.put,zA,zB,zC]
 refine takeH01 (fun _ _ _ _ _ h=>h) (by assumption) 5 (v:=undef) rfl (by kernel_rfl) (by kernel_rfl) (by kernel_rfl) (Or.inr ⟨by rfl,rfl⟩) ?_;simp only [List.getElem_toArray,List.getElem_cons_succ,List.getElem_cons_zero]
 try simp only [Act.put,zA,zB,zC]
 refine takeH01 (fun _ _ _ _ _ h=>h) (by assumption) 6 (v:=undef) rfl (by kernel_rfl) (by kernel_rfl) (by kernel_rfl) (Or.inr ⟨by rfl,rfl⟩) ?_;simp only [List.getElem_toArray,List.getElem_cons_succ,List.getElem_cons_zero]
 try simp only [Act.put,zA,zB,zC]
 refine takeH01 (fun _ _ _ _ _ h=>h) (by assumption) 7 (v:=undef) rfl (by kernel_rfl) (by kernel_rfl) (by kernel_rfl) (Or.inr ⟨by rfl,rfl⟩) ?_;simp only [List.getElem_toArray,List.getElem_cons_succ,List.getElem_cons_zero]
 try simp only [Act.put,zA,zB,zC]
 refine takeH01 (fun _ _ _ _ _ h=>h) (by assumption) 8 (v:=?v8) rfl (by kernel_rfl) (by kernel_rfl) (by kernel_rfl) (Or.inl ⟨by rfl,?hy8⟩) ?rest8
 case hy8=>(intro w hSw;(try dsimp only at hSw);go_simp;first|done|(with_reducible rfl))
 try simp only [Act.put,zA,zB,zC]
 refine takeH01 (fun _ _ _ _ _ h=>h) (by assumption) 9 (v:=?v9) rfl (by kernel_rfl) (by kernel_rfl) (by kernel_rfl) (Or.inl ⟨by rfl,?hy9⟩) ?rest9
 case hy9=>(intro w hSw;(try dsimp only at hSw);go_simp;first|done|(with_reducible rfl))
 try simp only [Act.put,zA,zB,zC]
 refine takeH01 (fun _ _ _ _ _ h=>h) (by assumption) 10 (v:=?v10) rfl (by kernel_rfl) (by kernel_rfl) (by kernel_rfl) (Or.inl ⟨by rfl,?hy10⟩) ?rest10
 case hy10=>(intro w hSw;(try dsimp only at hSw);go_simp;first|done|(with_reducible rfl))
 try simp only [Act.put,zA,zB,zC]
 refine takeH01 (fun _ _ _ _ _ h=>h) (by assumption) 11 (v:=?v11) rfl (by kernel_rfl) (by kernel_rfl) (by kernel_rfl) (Or.inl ⟨by rfl,?hy11⟩) ?rest11
 case hy11=>(intro w hSw;(try dsimp only at hSw);go_simp;first|done|(with_reducible rfl))
 try simp only [Act.put,zA,zB,zC]
 refine takeH01 (fun _ _ _ _ _ h=>h) (by assumption) 12 (v:=?v12) rfl (by kernel_rfl) (by kernel_rfl) (by kernel_rfl) (Or.inl ⟨by rfl,?hy12⟩) ?rest12
 case hy12=>(intro w hSw;(try dsimp only at hSw);go_simp;first|done|(with_reducible rfl))
 try simp only [Act.put,zA,zB,zC]
 refine takeH01 (fun _ _ _ _ _ h=>h) (by assumption) 13 (v:=?v13) rfl (by kernel_rfl) (by kernel_rfl) (by kernel_rfl) (Or.inl ⟨by rfl,?hy13⟩) ?rest13
 case hy13=>(intro w hSw;(try dsimp only at hSw);go_simp;first|done|(with_reducible rfl))
 try simp only [Act.put,zA,zB,zC]
 refine takeH01 (fun _ _ _ _ _ h=>h) (by assumption) 14 (v:=?v14) rfl (by kernel_rfl) (by kernel_rfl) (by kernel_rfl) (Or.inl ⟨by rfl,?hy14⟩) ?rest14
 case hy14=>(intro w hSw;(try dsimp only at hSw);go_simp;first|done|(with_reducible rfl))
 try simp only [Act.put,zA,zB,zC]
 refine takeH01 (fun _ _ _ _ _ h=>h) (by assumption) 15 (v:=?v15) rfl (by kernel_rfl) (by kernel_rfl) (by kernel_rfl) (Or.inl ⟨by rfl,?hy15⟩) ?rest15
 case hy15=>(intro w hSw;(try dsimp only at hSw);go_simp;first|done|(with_reducible rfl))
 try simp only [Act.put,zA,zB,zC]
 refine takeH01 (fun _ _ _ _ _ h=>h) (by assumption) 16 (v:=?v16) rfl (by kernel_rfl) (by kernel_rfl) (by kernel_rfl) (Or.inl ⟨by rfl,?hy16⟩) ?rest16
 case hy16=>(intro w hSw;(try dsimp only at hSw);go_simp;first|done|(with_reducible rfl))
 try simp only [Act.put,zA,zB,zC]
 refine takeH01 (fun _ _ _ _ _ h=>h) (by assumption) 17 (v:=?v17) rfl (by kernel_rfl) (by kernel_rfl) (by kernel_rfl) (Or.inl ⟨by rfl,?hy17⟩) ?rest17
 case hy17=>(intro w hSw;(try dsimp only at hSw);go_simp;first|done|(with_reducible rfl))
 try simp only [Act.put,zA,zB,zC]
 refine takeH01 (fun _ _ _ _ _ h=>h) (by assumption) 18 (v:=?v18) rfl (by kernel_rfl) (by kernel_rfl) (by kernel_rfl) (Or.inl ⟨by rfl,?hy18⟩) ?rest18
 case hy18=>(intro w hSw;(try dsimp only at hSw);go_simp;first|done|(with_reducible rfl))
 try simp only [Act.put,zA,zB,zC]
 refine takeH01 (fun _ _ _ _ _ h=>h) (by assumption) 19 (v:=?v19) rfl (by kernel_rfl) (by kernel_rfl) (by kernel_rfl) (Or.inl ⟨by rfl,?hy19⟩) ?rest19
 case hy19=>(intro w hSw;(try dsimp only at hSw);go_simp;first|done|(with_reducible rfl))
 try simp only [Act.put,zA,zB,zC]
 refine takeH01 (fun _ _ _ _ _ h=>h) (by assumption) 21 (v:=?v21) rfl (by kernel_rfl) (by kernel_rfl) (by kernel_rfl) (Or.inl ⟨by rfl,?hy21⟩) ?rest21
 case hy21=>(intro w hSw;(try dsimp only at hSw);go_simp;first|done|(with_reducible rfl))
 try simp only [Act.put,zA,zB,zC]
 refine takeH01 (fun _ _ _ _ _ h=>h) (by assumption) 22 (v:=?v22) rfl (by kernel_rfl) (by kernel_rfl) (by kernel_rfl) (Or.inl ⟨by rfl,?hy22⟩) ?rest22
 case hy22=>(intro w hSw;(try dsimp only at hSw);go_simp;first|done|(with_reducible rfl))
 try simp only [Act.put,zA,zB,zC]
 refine takeH01 (fun _ _ _ _ _ h=>h) (by assumption) 23 (v:=?v23) rfl (by kernel_rfl) (by kernel_rfl) (by kernel_rfl) (Or.inl ⟨by rfl,?hy23⟩) ?rest23
 case hy23=>(intro w hSw;(try dsimp only at hSw);go_simp;first|done|(with_reducible rfl))
 try simp only [Act.put,zA,zB,zC]
 refine takeH01 (fun _ _ _ _ _ h=>h) (by assumption) 25 (v:=?v25) rfl (by kernel_rfl) (by kernel_rfl) (by kernel_rfl) (Or.inl ⟨by rfl,?hy25⟩) ?rest25
 case hy25=>(intro w hSw;(try dsimp only at hSw);go_simp;first|done|(with_reducible rfl))
 try simp only [Act.put,zA,zB,zC]
 refine takeH01 (fun _ _ _ _ _ h=>h) (by assumption) 26 (v:=?v26) rfl (by kernel_rfl) (by kernel_rfl) (by kernel_rfl) (Or.inl ⟨by rfl,?hy26⟩) ?rest26
 case hy26=>(intro w hSw;(try dsimp only at hSw);go_simp;first|done|(with_reducible rfl))
 try simp only [Act.put,zA,zB,zC]
 refine takeH01 (fun _ _ _ _ _ h=>h) (by assumption) 27 (v:=?v27) rfl (by kernel_rfl) (by kernel_rfl) (by kernel_rfl) (Or.inl ⟨by rfl,?hy27⟩) ?rest27
 case hy27=>(intro w hSw;(try dsimp only at hSw);go_simp;first|done|(with_reducible rfl))
 try simp only [Act.put,zA,zB,zC]
 refine takeH01 (fun _ _ _ _ _ h=>h) (by assumption) 29 (v:=?v29) rfl (by kernel_rfl) (by kernel_rfl) (by kernel_rfl) (Or.inl ⟨by rfl,?hy29⟩) ?rest29
 case hy29=>(intro w hSw;(try dsimp only at hSw);go_simp;first|done|(with_reducible rfl))
 try simp only [Act.put,zA,zB,zC]
 refine takeH01 (fun _ _ _ _ _ h=>h) (by assumption) 30 (v:=?v30) rfl (by kernel_rfl) (by kernel_rfl) (by kernel_rfl) (Or.inl ⟨by rfl,?hy30⟩) ?rest30
 case hy30=>(intro w hSw;(try dsimp only at hSw);go_simp;first|done|(with_reducible rfl))
 try simp only [Act.put,zA,zB,zC]
 refine takeH01 (fun _ _ _ _ _ h=>h) (by assumption) 31 (v:=?v31) rfl (by kernel_rfl) (by kernel_rfl) (by kernel_rfl) (Or.inl ⟨by rfl,?hy31⟩) ?rest31
 case hy31=>(intro w hSw;(try dsimp only at hSw);go_simp;first|done|(with_reducible rfl))
 try simp only [Act.put,zA,zB,zC]
 refine takeH01 (fun _ _ _ _ _ h=>h) (by assumption) 33 (v:=?v33) rfl (by kernel_rfl) (by kernel_rfl) (by kernel_rfl) (Or.inl ⟨by rfl,?hy33⟩) ?rest33
 case hy33=>(intro w hSw;(try dsimp only at hSw);go_simp;first|done|(with_reducible rfl))
 try simp only [Act.put,zA,zB,zC]
 refine takeH01 (fun _ _ _ _ _ h=>h) (by assumption) 34 (v:=?v34) rfl (by kernel_rfl) (by kernel_rfl) (by kernel_rfl) (Or.inl ⟨by rfl,?hy34⟩) ?rest34
 case hy34=>(intro w hSw;(try dsimp only at hSw);go_simp;first|done|(with_reducible rfl))
 try simp only [Act.put,zA,zB,zC]
 refine takeH01 (fun _ _ _ _ _ h=>h) (by assumption) 35 (v:=?v35) rfl (by kernel_rfl) (by kernel_rfl) (by kernel_rfl) (Or.inl ⟨by rfl,?hy35⟩) ?rest35
 case hy35=>(intro w hSw;(try dsimp only at hSw);go_simp;first|done|(with_reducible rfl))
 try simp only [Act.put,zA,zB,zC]
 refine takeH01 (fun _ _ _ _ _ h=>h) (by assumption) 38 (v:=?v38) rfl (by kernel_rfl) (by kernel_rfl) (by kernel_rfl) (Or.inl ⟨by rfl,?hy38⟩) ?rest38
 case hy38=>(intro w hSw;(try dsimp only at hSw);go_simp;first|done|(with_reducible rfl))
 try simp only [Act.put,zA,zB,zC]
 refine takeH01 (fun _ _ _ _ _ h=>h) (by assumption) 39 (v:=?v39) rfl (by kernel_rfl) (by kernel_rfl) (by kernel_rfl) (Or.inl ⟨by rfl,?hy39⟩) ?rest39
 case hy39=>(intro w hSw;(try dsimp only at hSw);go_simp;first|done|(with_reducible rfl))
 try simp only [Act.put,zA,zB,zC]
 refine takeH01 (fun _ _ _ _ _ h=>h) (by assumption) 40 (v:=?v40) rfl (by kernel_rfl) (by kernel_rfl) (by kernel_rfl) (Or.inl ⟨by rfl,?hy40⟩) ?rest40
 case hy40=>(intro w hSw;(try dsimp only at hSw);go_simp;first|done|(with_reducible rfl))
 try simp only [Act.put,zA,zB,zC]
 refine takeH01 (fun _ _ _ _ _ h=>h) (by assumption) 41 (v:=?v41) rfl (by kernel_rfl) (by kernel_rfl) (by kernel_rfl) (Or.inl ⟨by rfl,?hy41⟩) ?rest41
 case hy41=>(intro w hSw;(try dsimp only at hSw);go_simp;first|done|(with_reducible rfl))
 try simp only [Act.put,zA,zB,zC]
 refine takeH01 (fun _ _ _ _ _ h=>h) (by assumption) 42 (v:=?v42) rfl (by kernel_rfl) (by kernel_rfl) (by kernel_rfl) (Or.inl ⟨by rfl,?hy42⟩) ?rest42
 case hy42=>(intro w hSw;(try dsimp only at hSw);go_simp;first|done|(with_reducible rfl))
 try simp only [Act.put,zA,zB,zC]
 refine takeH01 (fun _ _ _ _ _ h=>h) (by assumption) 44 (v:=?v44) rfl (by kernel_rfl) (by kernel_rfl) (by kernel_rfl) (Or.inl ⟨by rfl,?hy44⟩) ?rest44
 case hy44=>(intro w hSw;(try dsimp only at hSw);go_simp;first|done|(with_reducible rfl))
 try simp only [Act.put,zA,zB,zC]
 refine takeH01 (fun _ _ _ _ _ h=>h) (by assumption) 45 (v:=?v45) rfl (by kernel_rfl) (by kernel_rfl) (by kernel_rfl) (Or.inl ⟨by rfl,?hy45⟩) ?rest45
 case hy45=>(intro w hSw;(try dsimp only at hSw);go_simp;first|done|(with_reducible rfl))
 try simp only [Act.put,zA,zB,zC]
 refine takeH01 (fun _ _ _ _ _ h=>h) (by assumption) 46 (v:=?v46) rfl (by kernel_rfl) (by kernel_rfl) (by kernel_rfl) (Or.inl ⟨by rfl,?hy46⟩) ?rest46
 case hy46=>(intro w hSw;(try dsimp only at hSw);go_simp;first|done|(with_reducible rfl))
 try simp only [Act.put,zA,zB,zC]
 refine takeH01 (fun _ _ _ _ _ h=>h) (by assumption) 47 (v:=?v47) rfl (by kernel_rfl) (by kernel_rfl) (by kernel_rfl) (Or.inl ⟨by rfl,?hy47⟩) ?rest47
 case hy47=>(intro w hSw;(try dsimp only at hSw);go_simp;first|done|(with_reducible rfl))
 try simp only [Act.put,zA,zB,zC]
 refine takeH01 (fun _ _ _ _ _ h=>h) (by assumption) 48 (v:=?v48) rfl (by kernel_rfl) (by kernel_rfl) (by kernel_rfl) (Or.inl ⟨by rfl,?hy48⟩) ?rest48
 case hy48=>(intro w hSw;(try dsimp only at hSw);go_simp;first|done|(with_reducible rfl))
 try simp only [Act.put,zA,zB,zC]
 refine zr1 (i:=20) rfl (fun K hK=>?_);go_simp
 (go_at_call 159;(with_reducible refine (limit_rw (mfl m.kind) _ _ _ _ _ _ (by omega) (by omega) cLd).mono ?_);rintro r w' ⟨rfl,rfl⟩;try go_wp2_with fail)
 refine hK.out _ _ ?_ (fun hHeld=>?_)
 ·assumption
 clear hK K
 try simp only [Act.put,zA,zB,zC]
 refine zr1 (i:=24) rfl (fun K hK=>?_);go_simp
 (go_at_call 159;(with_reducible refine (limit_rw (mfl m.kind) _ _ _ _ _ _ (by omega) (by omega) cLd).mono ?_);rintro r w' ⟨rfl,rfl⟩;try go_wp2_with fail)
 refine hK.out _ _ ?_ (fun hHeld=>?_)
 ·assumption
 clear hK K
 try simp only [Act.put,zA,zB,zC]
 refine zr1 (i:=28) rfl (fun K hK=>?_);go_simp
 (go_at_call 159;(with_reducible refine (limit_rw (mfl m.kind) _ _ _ _ _ _ (by omega) (by omega) cLd).mono ?_);rintro r w' ⟨rfl,rfl⟩;try go_wp2_with fail)
 refine hK.out _ _ ?_ (fun hHeld=>?_)
 ·assumption
 clear hK K
 try simp only [Act.put,zA,zB,zC]
 refine zr1 (i:=32) rfl (fun K hK=>?_);go_simp
 (go_at_call 159;(with_reducible refine (limit_rw (mfl m.kind) _ _ _ _ _ _ (by omega) (by omega) cLd).mono ?_);rintro r w' ⟨rfl,rfl⟩;try go_wp2_with fail)
 refine hK.out _ _ ?_ (fun hHeld=>?_)
 ·assumption
 clear hK K
 try simp only [Act.put,zA,zB,zC]
 refine zr1 (i:=36) rfl (fun K hK=>?_);go_simp
 (go_at_call 100;(with_reducible refine (bit_any m.ok _).mono ?_);rintro r w' ⟨rfl,rfl⟩;try go_wp2_with fail)
 refine hK.out _ _ ?_ (fun hHeld=>?_)
 ·assumption
 clear hK K
 try simp only [Act.put,zA,zB,zC]
 refine zr1 (i:=37) rfl (fun K hK=>?_);go_simp
 (go_at_call 159;(with_reducible refine (limit_rw (mfl m.kind) _ _ _ _ _ _ (by omega) (by omega) cLd).mono ?_);rintro r w' ⟨rfl,rfl⟩;try go_wp2_with fail)
 refine hK.out _ _ ?_ (fun hHeld=>?_)
 ·assumption
 clear hK K
 try simp only [Act.put,zA,zB,zC]
 refine zr1 (i:=43) rfl (fun K hK=>?_);go_simp
 (go_at_call 159;(with_reducible refine (limit_rw (mfl m.kind) _ _ _ _ _ _ (by omega) (by omega) cLd).mono ?_);rintro r w' ⟨rfl,rfl⟩;try go_wp2_with fail)
 refine hK.out _ _ ?_ (fun hHeld=>?_)
 ·assumption
 clear hK K
 try simp only [Act.put,zA,zB,zC]
 refine zr1 (i:=49) rfl (fun K hK=>?_);go_simp
 (go_at_call 159;(with_reducible refine (limit_rw (mfl m.kind) _ _ _ _ _ _ (by omega) (by omega) cLd).mono ?_);rintro r w' ⟨rfl,rfl⟩;try go_wp2_with fail)
 refine hK.out _ _ ?_ (fun hHeld=>?_)
 ·assumption
 clear hK K
 try simp only [Act.put,zA,zB,zC]
 refine zr1 (i:=50) rfl (fun K hK=>?_);go_simp
 skip
 refine hK.out _ _ ?_ (fun hHeld=>?_)
 ·first|assumption|go_keep
 clear hK K
 try simp only [Act.put,zA,zB,zC]
 refine zr1 (i:=51) rfl (fun K hK=>?_);go_simp
 (go_at_call 52;(with_reducible refine (all10 _ _ _ _ _ _ _ _ _ _ _).mono ?_);rintro r w' ⟨rfl,rfl⟩;try go_wp2_with fail)
 refine hK.out _ _ ?_ (fun hHeld=>?_)
 ·assumption
 clear hK K
 try simp only [Act.put,zA,zB,zC]
 refine takeH01 (fun _ _ _ _ _ h=>h) (by assumption) 52 (v:=?v52) rfl (by kernel_rfl) (by kernel_rfl) (by kernel_rfl) (Or.inl ⟨by rfl,?hy52⟩) ?rest52
 case hy52=>(intro w hSw;(try dsimp only at hSw);go_simp;first|done|(with_reducible rfl))
 try simp only [Act.put,zA,zB,zC]
 refine wpAnyH_done (by kernel_rfl) ?_ _;refine NoPanic.normal ?_
 have HM2:Hid (mrightB m=false):=by
  show _=_
  unfold mrightB;rw [hR.out]
  simp
 go_wp2;go_ret;exact ⟨ret_bool HM2.out.symm,(hb.alloc hb.size _).drew⟩
end Go.Proofs.YtpdbeijfchmlgaaGreat
