/-
  WalPlays: STf2.
  Conditions: named in each theorem.
-/
import Derived.Test.YtnobeoppffoomaaGreatP24
import Derived.Deep.CutRange
import Derived.Test.YtnobeoppffoomaaGreatP0
set_option linter.unusedVariables false
set_option linter.unusedSimpArgs false
set_option maxHeartbeats 8000000
set_option maxRecDepth 100000
namespace Go.Proofs.YtnobeoppffoomaaGreat
open Go.RowKit
open Vi
abbrev wre (w:World) (g:Nat) (E:En):World:=(((((((((((w.setCell ⟨g,0,none⟩ (.int .u64 E.term)).setCell ⟨g,1,none⟩ (.int .u64 E.index)).setCell ⟨g,2,none⟩ (.int .i64 E.kind)).setCell ⟨g,3,none⟩ (.int .u64 E.client)).setCell ⟨g,4,none⟩ (.int .u64 E.seq)).setCell ⟨g,5,none⟩ (.int .u64 E.block)).setCell ⟨g,6,none⟩ (.int .u64 E.many)).setCell ⟨g,7,none⟩ (.int .i64 E.node)).setCell ⟨g,8,none⟩ (.int .i64 E.level)).setCell ⟨g,9,none⟩ (.string E.data)).setCell ⟨g,10,none⟩ (.string E.old))
theorem store_wre {wr:World} {g:Nat} (E:En) (h:wr.heap[g]?=some (.cells (ec ezz) 28 (0,0))):(wre wr g E).heap[g]?=some (.cells (ec E) 28 (0,0)):=store_all E h
theorem heap_wre (w:World) (g k:Nat) (E:En) (h:k≠g):(wre w g E).heap[k]?=w.heap[k]?:=by
 have hs:∀ (w:World) (i:Nat) (u:Value),(w.setCell ⟨g,i,none⟩ u).heap[k]?=w.heap[k]?:=fun w i u=>Below.heap_setCell w _ _ k (by simp;omega)
 unfold wre
 rw [hs,hs,hs,hs,hs,hs,hs,hs,hs,hs,hs]
theorem gb_wre {w0 w:World} {g r:Nat} (E:En) (h:w0.grownBy w (some g)) (hr:w0.heap.size≤r):w0.grownBy (wre w r E) (some g) :=
 gb_set_b (gb_set_b (gb_set_b (gb_set_b (gb_set_b (gb_set_b (gb_set_b (gb_set_b (gb_set_b (gb_set_b (gb_set_b h hr) hr) hr) hr) hr) hr) hr) hr) hr) hr) hr
theorem stab_wre {w0 w:World} {r:Nat} (E:En) (h:Stab w0 w) (hk:∃ cs,w.heap[r]?=some (.cells cs 28 (0,0))):Stab w0 (wre w r E):=by
 refine h.trans fun k cs T h1 h2 h3 h4=>?_
 obtain ⟨cs',hc⟩:=hk
 rw [heap_wre w r k E (fun e=>by
  subst e
  rw [hc] at h1
  injection h1 with h1
  injection h1 with _ h5
  exact tyno (T:=28) (.inl (by decide)) h2 h3 h4 h5)]
 exact h1
structure En.OkL (e:En):Prop where
 t0:0≤e.term
 t1:e.term≤18446744073709551615
 i0:0≤e.index
 i1:e.index≤18446744073709551615
 k0:-9223372036854775808≤e.kind
 k1:e.kind≤9223372036854775807
 c0:0≤e.client
 c1:e.client≤18446744073709551615
 s0:0≤e.seq
 s1:e.seq≤18446744073709551615
 b0:0≤e.block
 b1:e.block≤18446744073709551615
 m0:0≤e.many
 m1:e.many≤18446744073709551615
 n0:-9223372036854775808≤e.node
 n1:e.node≤9223372036854775807
 l0:-9223372036854775808≤e.level
 l1:e.level≤9223372036854775807
 d1:e.data.size≤281474976710656
 o1:e.old.size≤281474976710656
theorem setN_ok {t:Nat} {E:En} {v:Nat} (h:E.OkL) (hv:v<18446744073709551616):(setN t E v).OkL:=by
 have hw:-9223372036854775808≤IntKind.i64.wrap (v:Int)∧IntKind.i64.wrap (v:Int)≤9223372036854775807:=by rw [IntKind.wrap_i64];omega
 obtain ⟨h1,h2⟩:=hw
 have a1:=h.t0
 have a2:=h.t1
 have a3:=h.i0
 have a4:=h.i1
 have a5:=h.k0
 have a6:=h.k1
 have a7:=h.c0
 have a8:=h.c1
 have a9:=h.s0
 have a10:=h.s1
 have a11:=h.b0
 have a12:=h.b1
 have a13:=h.m0
 have a14:=h.m1
 have a15:=h.n0
 have a16:=h.n1
 have a17:=h.l0
 have a18:=h.l1
 have a19:=h.d1
 have a20:=h.o1
 unfold setN
 split<;>first|exact h|(constructor<;>(try dsimp only)<;>first|assumption|omega)
theorem setT_ok {t:Nat} {E:En} {d:ByteArray} (h:E.OkL) (hd:d.size≤281474976710656):(setT t E d).OkL:=by
 obtain ⟨a1,a2,a3,a4,a5,a6,a7,a8,a9,a10,a11,a12,a13,a14,a15,a16,a17,a18,a19,a20⟩:=h
 unfold setT
 split<;>(constructor<;>(try dsimp only)<;>first|assumption|omega)
theorem texV_le (s:ByteArray):(texV s).size≤s.size:=by
 have h:=varT_size s
 unfold texV bytV
 split
 ·rw [ByteArray.size_extract];omega
 ·exact Nat.zero_le _
theorem fS_ok {t:Nat} {E:En} {T:ByteArray} (h:E.OkL) (hT:T.size≤281474976710656):(fS t E T).1.OkL:=by
 unfold fS
 split
 ·exact setN_ok h (varV_lt T)
 ·exact setT_ok h (Nat.le_trans (texV_le T) hT)
theorem ezz_ok:ezz.OkL:=by constructor<;>decide
theorem takeFields_any (fb g:Nat) (s:ByteArray) (bad:Bool) (w:World) (hF:Flds fb w) (h:Rd 225 g s bad w) (hm:s.size≤281474976710656) :
 Calls Tryz.prog 205 #[.slice (some ⟨fb,0,none⟩) 12 12,.pointer (some ⟨g,0,none⟩)] w fun e w'=>e=.returned (ev (eR s bad).1)∧Rd 225 g (eR s bad).2.1 (eR s bad).2.2 w'∧w.grownBy w' (some g)∧Stab w w'∧(eR s bad).2.1.size≤281474976710656∧(eR s bad).1.OkL:=by
 have hlt:=h.lt
 obtain ⟨W1,hW1⟩:∃ W1,W1=w.alloc (Obj.cells (ec ezz) 28):=⟨_,rfl⟩
 have b1:Below w.heap.size w W1:=by rw [hW1];exact (Below.refl _ _).alloc (Nat.le_refl _) _
 have z1:W1.heap.size=w.heap.size+1:=by rw [hW1];simp
 have r1:W1.heap[w.heap.size]?=some (.cells (ec ezz) 28 (0,0)):=by rw [hW1];exact heap_alloc_new w _
 obtain ⟨W2,hW2⟩:∃ W2,W2=W1.alloc (Obj.cells (ec ezz) 28):=⟨_,rfl⟩
 have b2:Below W1.heap.size W1 W2:=by rw [hW2];exact (Below.refl _ _).alloc (Nat.le_refl _) _
 have T0:Tq W1 g W1.heap.size ezz s bad W2 :=
  ⟨(h.below b1 hlt).below b2 (by omega),by rw [hW2];exact heap_alloc_new W1 _,⟨b2.os,b2.tape,b2.output,b2.size,fun i hi _=>b2.block i hi⟩,Stab.below b2,by omega,Nat.le_refl _,hm⟩
 have F1:Flds fb W1:=hF.on (Stab.below b1)
 obtain ⟨R,hR⟩:∃ R,R=eR s bad:=⟨_,rfl⟩
 rw [←hR]
 have HR0:Hid (pk eF 12 0 ezz s bad=R):=hR.symm
 have HW:Hid (W2=(w.alloc (Obj.cells (ec ezz) 28)).alloc (Obj.cells (ec ezz) 28)):=by show _=_;rw [hW2,hW1]
 have HZ:=zh z1
 have HB1:=zh b1
 have HR1:=zh r1
 have HF1:=zh F1
 have HT0:=zh T0
 have HLT:=zh hlt
 clear hF h hm hW1 b1 z1 r1 hW2 b2 T0 F1 hR hlt
 have hend:Hid (∀ (E:En) (T:ByteArray) (b:Bool) (W:World),Tq W1 g W1.heap.size E T b W→E.OkL→(E,T,b)=R→(∀ i,W.cell? ⟨W1.heap.size,i,none⟩=(ec E)[i]?)∧W.heap[w.heap.size]?=some (.cells (ec ezz) 28 (0,0))∧Rd 225 g R.2.1 R.2.2 (wre W w.heap.size E)∧w.grownBy (wre W w.heap.size E) (some g)∧Stab w (wre W w.heap.size E)∧R.2.1.size≤281474976710656∧R.1.OkL∧R.1=E):=by
  intro E T b W hT hE hR
  have hz:=HZ.out
  have hlt:=HLT.out
  have hres:W.heap[w.heap.size]?=some (.cells (ec ezz) 28 (0,0)):=(hT.fr.block _ (by omega) (by simp;omega)).trans HR1.out
  have hgr:w.grownBy W (some g):=⟨hT.fr.os.trans HB1.out.os,hT.fr.tape.trans HB1.out.tape,hT.fr.output.trans HB1.out.output,Nat.le_trans HB1.out.size hT.fr.size,fun i hi hne=>(hT.fr.block i (by omega) hne).trans (HB1.out.block i hi)⟩
  subst hR
  exact ⟨hT.cell,hres,(heap_wre W w.heap.size g E (by omega)).trans hT.hr,gb_wre E hgr (Nat.le_refl _),stab_wre E ((Stab.below HB1.out).trans hT.st) ⟨_,hres⟩,hT.sz,hE,rfl⟩
 go_enter Tryz.func205,Tryz.ntmps205
 go_wp2_with fail
 rw [←HW.out]
 try rw [←HZ.out]
 clear HW
 obtain ⟨q,hq⟩:∃ q,q=W1.heap.size:=⟨_,rfl⟩
 rw [←hq] at HT0 hend ⊢
 obtain ⟨H0,hH0⟩:∃ H0,H0=w.heap.size:=⟨_,rfl⟩
 have HQ:=zh hq
 have HH:=zh hH0
 rw [←hH0] at hend
 try rw [←hH0]
 clear hq hH0
 go_loopw [6] (fun l wr=>∃ (n last:Nat) (E:En) (T:ByteArray) (b:Bool),12≤n+last∧last≤11∧l=.int .u64 last∧Hid (pk eF n last E T b=R)∧Tq W1 g q E T b wr∧E.OkL) (fun l _=>12-(Go.RowKit.intOf l).toNat)
 case atStart=>exact ⟨12,0,ezz,s,bad,by omega,by omega,rfl,HR0,HT0.out,ezz_ok⟩
 case round =>
  obtain ⟨n,last,E,T,b,hn,hl,rfl,HP,hT,hE⟩:=hrel
  clear HR0 HT0
  obtain ⟨m,rfl⟩:∃ m,n=m+1:=⟨n-1,by omega⟩
  have K98:=zh (tq_var W1 g q E T b wr hT)
  have hvl:=varV_lt T
  have hpk:=HP.out
  unfold pk at hpk
  obtain ⟨v,hv⟩:∃ v,v=varV T:=⟨_,rfl⟩
  obtain ⟨T1,hT1⟩:∃ T1,T1=varT T:=⟨_,rfl⟩
  obtain ⟨bb,hbb⟩:∃ bb,bb=(b||!varO T):=⟨_,rfl⟩
  rw [←hv,←hT1,←hbb] at K98 hpk
  rw [←hv] at hvl
  have HE:=zh hE
  have HPK:=zh hpk
  clear HP hT hpk hv hT1 hbb hE
  by_cases hv0:v=0
  ·subst hv0
   have HRR:Hid ((E,T1,bb)=R):=by have h:=HPK.out;rw [if_pos rfl] at h;exact h
   clear HPK hvl
   go_wp2_with fail
   refine K98.out.mono ?_
   rintro e w3 ⟨rfl,h3⟩
   obtain ⟨x1,x2,x3,x4,x5,x6,x7,x8⟩:=hend.out _ _ _ _ h3 HE.out HRR.out
   have c0:w3.cell? ⟨q,0,none⟩=some (.int .u64 E.term):=x1 0
   have c1:w3.cell? ⟨q,1,none⟩=some (.int .u64 E.index):=x1 1
   have c2:w3.cell? ⟨q,2,none⟩=some (.int .i64 E.kind):=x1 2
   have c3:w3.cell? ⟨q,3,none⟩=some (.int .u64 E.client):=x1 3
   have c4:w3.cell? ⟨q,4,none⟩=some (.int .u64 E.seq):=x1 4
   have c5:w3.cell? ⟨q,5,none⟩=some (.int .u64 E.block):=x1 5
   have c6:w3.cell? ⟨q,6,none⟩=some (.int .u64 E.many):=x1 6
   have c7:w3.cell? ⟨q,7,none⟩=some (.int .i64 E.node):=x1 7
   have c8:w3.cell? ⟨q,8,none⟩=some (.int .i64 E.level):=x1 8
   have c9:w3.cell? ⟨q,9,none⟩=some (.string E.data):=x1 9
   have c10:w3.cell? ⟨q,10,none⟩=some (.string E.old):=x1 10
   have z0:w3.cell? ⟨H0,0,none⟩=some (.int .u64 0):=zcr w3 _ 0 _ 28 (0,0) x2
   have z1:w3.cell? ⟨H0,1,none⟩=some (.int .u64 0):=zcr w3 _ 1 _ 28 (0,0) x2
   have z2:w3.cell? ⟨H0,2,none⟩=some (.int .i64 0):=zcr w3 _ 2 _ 28 (0,0) x2
   have z3:w3.cell? ⟨H0,3,none⟩=some (.int .u64 0):=zcr w3 _ 3 _ 28 (0,0) x2
   have z4:w3.cell? ⟨H0,4,none⟩=some (.int .u64 0):=zcr w3 _ 4 _ 28 (0,0) x2
   have z5:w3.cell? ⟨H0,5,none⟩=some (.int .u64 0):=zcr w3 _ 5 _ 28 (0,0) x2
   have z6:w3.cell? ⟨H0,6,none⟩=some (.int .u64 0):=zcr w3 _ 6 _ 28 (0,0) x2
   have z7:w3.cell? ⟨H0,7,none⟩=some (.int .i64 0):=zcr w3 _ 7 _ 28 (0,0) x2
   have z8:w3.cell? ⟨H0,8,none⟩=some (.int .i64 0):=zcr w3 _ 8 _ 28 (0,0) x2
   have z9:w3.cell? ⟨H0,9,none⟩=some (.string ⟨#[]⟩):=zcr w3 _ 9 _ 28 (0,0) x2
   have z10:w3.cell? ⟨H0,10,none⟩=some (.string ⟨#[]⟩):=zcr w3 _ 10 _ 28 (0,0) x2
   have fz:∀ i,w3.frozen? ⟨H0,i,none⟩=false:=fun i=>Lib.frozen_of_heap x2 i
   have hblk:=store_wre E x2
   obtain ⟨WF,hWF⟩:∃ WF,WF=wre w3 H0 E:=⟨_,rfl⟩
   rw [←hWF] at x3 x4 x5 hblk
   have X3:=zh x3
   have X4:=zh x4
   have X5:=zh x5
   have X7:=zh x7
   have X8:=zh x8
   have X6:=zh x6
   have HWF:=zh hWF
   have HBK:=zh hblk
   clear x1 x2 x3 x4 x5 x6 x7 x8 hWF hblk h3
   go_wp2
   have hWF2:=HWF.out
   unfold wre at hWF2
   rw [←hWF2]
   clear hWF2
   have f0:WF.cell? ⟨H0,0,none⟩=some (.int .u64 E.term):=zcr WF _ 0 _ 28 (0,0) HBK.out
   have f1:WF.cell? ⟨H0,1,none⟩=some (.int .u64 E.index):=zcr WF _ 1 _ 28 (0,0) HBK.out
   have f2:WF.cell? ⟨H0,2,none⟩=some (.int .i64 E.kind):=zcr WF _ 2 _ 28 (0,0) HBK.out
   have f3:WF.cell? ⟨H0,3,none⟩=some (.int .u64 E.client):=zcr WF _ 3 _ 28 (0,0) HBK.out
   have f4:WF.cell? ⟨H0,4,none⟩=some (.int .u64 E.seq):=zcr WF _ 4 _ 28 (0,0) HBK.out
   have f5:WF.cell? ⟨H0,5,none⟩=some (.int .u64 E.block):=zcr WF _ 5 _ 28 (0,0) HBK.out
   have f6:WF.cell? ⟨H0,6,none⟩=some (.int .u64 E.many):=zcr WF _ 6 _ 28 (0,0) HBK.out
   have f7:WF.cell? ⟨H0,7,none⟩=some (.int .i64 E.node):=zcr WF _ 7 _ 28 (0,0) HBK.out
   have f8:WF.cell? ⟨H0,8,none⟩=some (.int .i64 E.level):=zcr WF _ 8 _ 28 (0,0) HBK.out
   have f9:WF.cell? ⟨H0,9,none⟩=some (.string E.data):=zcr WF _ 9 _ 28 (0,0) HBK.out
   have f10:WF.cell? ⟨H0,10,none⟩=some (.string E.old):=zcr WF _ 10 _ 28 (0,0) HBK.out
   exact bodyPost_ret (v:=ev E) (by simp [results,Tryz.results205,go_sem,f0,f1,f2,f3,f4,f5,f6,f7,f8,f9,f10]) rfl ⟨by rw [X8.out],X3.out,X4.out,X5.out,X6.out,X7.out⟩
  ·have e0:((v:Int)==0)=false:=by simp;omega
   by_cases hq1:v≤last∨12≤v
   ·have HRR:Hid ((E,⟨#[]⟩,true)=R):=by have h:=HPK.out;rw [if_neg hv0,if_pos hq1] at h;exact h
    have hw12:IntKind.u64.wrap (12:Int)=12:=rfl
    clear HPK
    by_cases hq2:v≤last
    ·have d1:decide (v≤last)=true:=decide_eq_true hq2
     have d1':decide ((v:Int)≤(last:Int))=true:=decide_eq_true (by omega)
     clear hq1
     go_wp2_with fail
     refine K98.out.mono ?_
     rintro e w2 ⟨rfl,h2⟩
     go_wp2_with fail
     refine (tq_fail W1 g q E T1 bb w2 h2).mono ?_
     rintro e w3 ⟨rfl,h3⟩
     obtain ⟨x1,x2,x3,x4,x5,x6,x7,x8⟩:=hend.out _ _ _ _ h3 HE.out HRR.out
     have c0:w3.cell? ⟨q,0,none⟩=some (.int .u64 E.term):=x1 0
     have c1:w3.cell? ⟨q,1,none⟩=some (.int .u64 E.index):=x1 1
     have c2:w3.cell? ⟨q,2,none⟩=some (.int .i64 E.kind):=x1 2
     have c3:w3.cell? ⟨q,3,none⟩=some (.int .u64 E.client):=x1 3
     have c4:w3.cell? ⟨q,4,none⟩=some (.int .u64 E.seq):=x1 4
     have c5:w3.cell? ⟨q,5,none⟩=some (.int .u64 E.block):=x1 5
     have c6:w3.cell? ⟨q,6,none⟩=some (.int .u64 E.many):=x1 6
     have c7:w3.cell? ⟨q,7,none⟩=some (.int .i64 E.node):=x1 7
     have c8:w3.cell? ⟨q,8,none⟩=some (.int .i64 E.level):=x1 8
     have c9:w3.cell? ⟨q,9,none⟩=some (.string E.data):=x1 9
     have c10:w3.cell? ⟨q,10,none⟩=some (.string E.old):=x1 10
     have z0:w3.cell? ⟨H0,0,none⟩=some (.int .u64 0):=zcr w3 _ 0 _ 28 (0,0) x2
     have z1:w3.cell? ⟨H0,1,none⟩=some (.int .u64 0):=zcr w3 _ 1 _ 28 (0,0) x2
     have z2:w3.cell? ⟨H0,2,none⟩=some (.int .i64 0):=zcr w3 _ 2 _ 28 (0,0) x2
     have z3:w3.cell? ⟨H0,3,none⟩=some (.int .u64 0):=zcr w3 _ 3 _ 28 (0,0) x2
     have z4:w3.cell? ⟨H0,4,none⟩=some (.int .u64 0):=zcr w3 _ 4 _ 28 (0,0) x2
     have z5:w3.cell? ⟨H0,5,none⟩=some (.int .u64 0):=zcr w3 _ 5 _ 28 (0,0) x2
     have z6:w3.cell? ⟨H0,6,none⟩=some (.int .u64 0):=zcr w3 _ 6 _ 28 (0,0) x2
     have z7:w3.cell? ⟨H0,7,none⟩=some (.int .i64 0):=zcr w3 _ 7 _ 28 (0,0) x2
     have z8:w3.cell? ⟨H0,8,none⟩=some (.int .i64 0):=zcr w3 _ 8 _ 28 (0,0) x2
     have z9:w3.cell? ⟨H0,9,none⟩=some (.string ⟨#[]⟩):=zcr w3 _ 9 _ 28 (0,0) x2
     have z10:w3.cell? ⟨H0,10,none⟩=some (.string ⟨#[]⟩):=zcr w3 _ 10 _ 28 (0,0) x2
     have fz:∀ i,w3.frozen? ⟨H0,i,none⟩=false:=fun i=>Lib.frozen_of_heap x2 i
     have hblk:=store_wre E x2
     obtain ⟨WF,hWF⟩:∃ WF,WF=wre w3 H0 E:=⟨_,rfl⟩
     rw [←hWF] at x3 x4 x5 hblk
     have X3:=zh x3
     have X4:=zh x4
     have X5:=zh x5
     have X7:=zh x7
     have X8:=zh x8
     have X6:=zh x6
     have HWF:=zh hWF
     have HBK:=zh hblk
     clear x1 x2 x3 x4 x5 x6 x7 x8 hWF hblk h3 h2
     go_wp2
     have hWF2:=HWF.out
     unfold wre at hWF2
     rw [←hWF2]
     clear hWF2
     have f0:WF.cell? ⟨H0,0,none⟩=some (.int .u64 E.term):=zcr WF _ 0 _ 28 (0,0) HBK.out
     have f1:WF.cell? ⟨H0,1,none⟩=some (.int .u64 E.index):=zcr WF _ 1 _ 28 (0,0) HBK.out
     have f2:WF.cell? ⟨H0,2,none⟩=some (.int .i64 E.kind):=zcr WF _ 2 _ 28 (0,0) HBK.out
     have f3:WF.cell? ⟨H0,3,none⟩=some (.int .u64 E.client):=zcr WF _ 3 _ 28 (0,0) HBK.out
     have f4:WF.cell? ⟨H0,4,none⟩=some (.int .u64 E.seq):=zcr WF _ 4 _ 28 (0,0) HBK.out
     have f5:WF.cell? ⟨H0,5,none⟩=some (.int .u64 E.block):=zcr WF _ 5 _ 28 (0,0) HBK.out
     have f6:WF.cell? ⟨H0,6,none⟩=some (.int .u64 E.many):=zcr WF _ 6 _ 28 (0,0) HBK.out
     have f7:WF.cell? ⟨H0,7,none⟩=some (.int .i64 E.node):=zcr WF _ 7 _ 28 (0,0) HBK.out
     have f8:WF.cell? ⟨H0,8,none⟩=some (.int .i64 E.level):=zcr WF _ 8 _ 28 (0,0) HBK.out
     have f9:WF.cell? ⟨H0,9,none⟩=some (.string E.data):=zcr WF _ 9 _ 28 (0,0) HBK.out
     have f10:WF.cell? ⟨H0,10,none⟩=some (.string E.old):=zcr WF _ 10 _ 28 (0,0) HBK.out
     exact bodyPost_ret (v:=ev E) (by simp [results,Tryz.results205,go_sem,f0,f1,f2,f3,f4,f5,f6,f7,f8,f9,f10]) rfl ⟨by rw [X8.out],X3.out,X4.out,X5.out,X6.out,X7.out⟩
    ·have d1:decide (v≤last)=false:=decide_eq_false hq2
     have d1':decide ((v:Int)≤(last:Int))=false:=decide_eq_false (by omega)
     have hq3:12≤v:=by omega
     have d2:decide ((12:Int)≤(v:Int))=true:=decide_eq_true (by omega)
     clear hq1
     go_wp2_with fail
     refine K98.out.mono ?_
     rintro e w2 ⟨rfl,h2⟩
     go_wp2_with fail
     refine (tq_fail W1 g q E T1 bb w2 h2).mono ?_
     rintro e w3 ⟨rfl,h3⟩
     obtain ⟨x1,x2,x3,x4,x5,x6,x7,x8⟩:=hend.out _ _ _ _ h3 HE.out HRR.out
     have c0:w3.cell? ⟨q,0,none⟩=some (.int .u64 E.term):=x1 0
     have c1:w3.cell? ⟨q,1,none⟩=some (.int .u64 E.index):=x1 1
     have c2:w3.cell? ⟨q,2,none⟩=some (.int .i64 E.kind):=x1 2
     have c3:w3.cell? ⟨q,3,none⟩=some (.int .u64 E.client):=x1 3
     have c4:w3.cell? ⟨q,4,none⟩=some (.int .u64 E.seq):=x1 4
     have c5:w3.cell? ⟨q,5,none⟩=some (.int .u64 E.block):=x1 5
     have c6:w3.cell? ⟨q,6,none⟩=some (.int .u64 E.many):=x1 6
     have c7:w3.cell? ⟨q,7,none⟩=some (.int .i64 E.node):=x1 7
     have c8:w3.cell? ⟨q,8,none⟩=some (.int .i64 E.level):=x1 8
     have c9:w3.cell? ⟨q,9,none⟩=some (.string E.data):=x1 9
     have c10:w3.cell? ⟨q,10,none⟩=some (.string E.old):=x1 10
     have z0:w3.cell? ⟨H0,0,none⟩=some (.int .u64 0):=zcr w3 _ 0 _ 28 (0,0) x2
     have z1:w3.cell? ⟨H0,1,none⟩=some (.int .u64 0):=zcr w3 _ 1 _ 28 (0,0) x2
     have z2:w3.cell? ⟨H0,2,none⟩=some (.int .i64 0):=zcr w3 _ 2 _ 28 (0,0) x2
     have z3:w3.cell? ⟨H0,3,none⟩=some (.int .u64 0):=zcr w3 _ 3 _ 28 (0,0) x2
     have z4:w3.cell? ⟨H0,4,none⟩=some (.int .u64 0):=zcr w3 _ 4 _ 28 (0,0) x2
     have z5:w3.cell? ⟨H0,5,none⟩=some (.int .u64 0):=zcr w3 _ 5 _ 28 (0,0) x2
     have z6:w3.cell? ⟨H0,6,none⟩=some (.int .u64 0):=zcr w3 _ 6 _ 28 (0,0) x2
     have z7:w3.cell? ⟨H0,7,none⟩=some (.int .i64 0):=zcr w3 _ 7 _ 28 (0,0) x2
     have z8:w3.cell? ⟨H0,8,none⟩=some (.int .i64 0):=zcr w3 _ 8 _ 28 (0,0) x2
     have z9:w3.cell? ⟨H0,9,none⟩=some (.string ⟨#[]⟩):=zcr w3 _ 9 _ 28 (0,0) x2
     have z10:w3.cell? ⟨H0,10,none⟩=some (.string ⟨#[]⟩):=zcr w3 _ 10 _ 28 (0,0) x2
     have fz:∀ i,w3.frozen? ⟨H0,i,none⟩=false:=fun i=>Lib.frozen_of_heap x2 i
     have hblk:=store_wre E x2
     obtain ⟨WF,hWF⟩:∃ WF,WF=wre w3 H0 E:=⟨_,rfl⟩
     rw [←hWF] at x3 x4 x5 hblk
     have X3:=zh x3
     have X4:=zh x4
     have X5:=zh x5
     have X7:=zh x7
     have X8:=zh x8
     have X6:=zh x6
     have HWF:=zh hWF
     have HBK:=zh hblk
     clear x1 x2 x3 x4 x5 x6 x7 x8 hWF hblk h3 h2
     go_wp2
     have hWF2:=HWF.out
     unfold wre at hWF2
     rw [←hWF2]
     clear hWF2
     have f0:WF.cell? ⟨H0,0,none⟩=some (.int .u64 E.term):=zcr WF _ 0 _ 28 (0,0) HBK.out
     have f1:WF.cell? ⟨H0,1,none⟩=some (.int .u64 E.index):=zcr WF _ 1 _ 28 (0,0) HBK.out
     have f2:WF.cell? ⟨H0,2,none⟩=some (.int .i64 E.kind):=zcr WF _ 2 _ 28 (0,0) HBK.out
     have f3:WF.cell? ⟨H0,3,none⟩=some (.int .u64 E.client):=zcr WF _ 3 _ 28 (0,0) HBK.out
     have f4:WF.cell? ⟨H0,4,none⟩=some (.int .u64 E.seq):=zcr WF _ 4 _ 28 (0,0) HBK.out
     have f5:WF.cell? ⟨H0,5,none⟩=some (.int .u64 E.block):=zcr WF _ 5 _ 28 (0,0) HBK.out
     have f6:WF.cell? ⟨H0,6,none⟩=some (.int .u64 E.many):=zcr WF _ 6 _ 28 (0,0) HBK.out
     have f7:WF.cell? ⟨H0,7,none⟩=some (.int .i64 E.node):=zcr WF _ 7 _ 28 (0,0) HBK.out
     have f8:WF.cell? ⟨H0,8,none⟩=some (.int .i64 E.level):=zcr WF _ 8 _ 28 (0,0) HBK.out
     have f9:WF.cell? ⟨H0,9,none⟩=some (.string E.data):=zcr WF _ 9 _ 28 (0,0) HBK.out
     have f10:WF.cell? ⟨H0,10,none⟩=some (.string E.old):=zcr WF _ 10 _ 28 (0,0) HBK.out
     exact bodyPost_ret (v:=ev E) (by simp [results,Tryz.results205,go_sem,f0,f1,f2,f3,f4,f5,f6,f7,f8,f9,f10]) rfl ⟨by rw [X8.out],X3.out,X4.out,X5.out,X6.out,X7.out⟩
   ·have HRR:Hid (pk eF m v (fS v E T1).1 (fS v E T1).2.1 (bb||!(fS v E T1).2.2)=R):=by have h:=HPK.out;rw [if_neg hv0,if_neg hq1] at h;exact h
    have d1:decide (v≤last)=false:=decide_eq_false (by omega)
    have d1':decide ((v:Int)≤(last:Int))=false:=decide_eq_false (by omega)
    have d2:decide ((12:Int)≤(v:Int))=false:=decide_eq_false (by omega)
    have hvr:last<v∧v≤11:=by omega
    have hvm:12≤m+v:=by omega
    clear HPK hq1
    go_wp2_with fail
    refine K98.out.mono ?_
    rintro e w2 ⟨rfl,h2⟩
    go_upto_region 9 with fail
    clear d1 d1' d2 e0
    obtain ⟨vv,hblk,g1,g2,g3,g4,g5,g6,g7,g8,g9,g10,g11⟩:=HF1.out
    rcases tag_cases (show 1≤v by omega) hvr.2 with rfl|rfl|rfl|rfl|rfl|rfl|rfl|rfl|rfl|rfl|rfl
    ·clear g2 g3 g4 g5 g6 g7 g8 g9 g10 g11
     obtain ⟨a,nn,p,r,_,hv1,hv2,ha0,hn0,hp0,hr0⟩:=g1
     have hbw:=h2.st _ _ _ hblk (by decide) (by decide) (by decide)
     have hf:w2.cell? ⟨fb,3,none⟩=some (.func (.func 196) #[] #[.pointer (some ⟨r,0,none⟩),.pointer (some ⟨nn,0,none⟩),.pointer (some ⟨a,0,none⟩)]):=by
      rw [←hv2];exact zcr w2 fb 3 _ 189 (0,0) hbw
     have HK:=zh (take1_any W1 g q E T1 bb w2 r nn a h2 hr0 hn0 ha0)
     have hok:(fS 1 E T1).1.OkL:=fS_ok HE.out h2.sz
     have HOK:=zh hok
     have hml:12-1<12-last:=by omega
     clear hv1 hv2 ha0 hn0 hp0 hr0 hblk hbw h2 hok
     go_wp2_with fail
     refine HK.out.mono ?_
     rintro e w4 ⟨rfl,h4⟩
     go_wp2
     go_roundw
     case rel=>exact ⟨m,1,_,_,_,hvm,by omega,rfl,HRR,h4,HOK.out⟩
     case measure=>simp [Go.RowKit.intOf];omega
    ·clear g1 g3 g4 g5 g6 g7 g8 g9 g10 g11
     obtain ⟨a,nn,p,r,_,hv1,hv2,ha0,hn0,hp0,hr0⟩:=g2
     have hbw:=h2.st _ _ _ hblk (by decide) (by decide) (by decide)
     have hf:w2.cell? ⟨fb,5,none⟩=some (.func (.func 199) #[] #[.pointer (some ⟨r,0,none⟩),.pointer (some ⟨nn,0,none⟩),.pointer (some ⟨a,0,none⟩)]):=by
      rw [←hv2];exact zcr w2 fb 5 _ 189 (0,0) hbw
     have HK:=zh (take2_any W1 g q E T1 bb w2 r nn a h2 hr0 hn0 ha0)
     have hok:(fS 2 E T1).1.OkL:=fS_ok HE.out h2.sz
     have HOK:=zh hok
     have hml:12-2<12-last:=by omega
     clear hv1 hv2 ha0 hn0 hp0 hr0 hblk hbw h2 hok
     go_wp2_with fail
     refine HK.out.mono ?_
     rintro e w4 ⟨rfl,h4⟩
     go_wp2
     go_roundw
     case rel=>exact ⟨m,2,_,_,_,hvm,by omega,rfl,HRR,h4,HOK.out⟩
     case measure=>simp [Go.RowKit.intOf];omega
    ·clear g1 g2 g4 g5 g6 g7 g8 g9 g10 g11
     obtain ⟨a,nn,p,r,_,hv1,hv2,ha0,hn0,hp0,hr0⟩:=g3
     have hbw:=h2.st _ _ _ hblk (by decide) (by decide) (by decide)
     have hf:w2.cell? ⟨fb,7,none⟩=some (.func (.func 199) #[] #[.pointer (some ⟨r,0,none⟩),.pointer (some ⟨nn,0,none⟩),.pointer (some ⟨a,0,none⟩)]):=by
      rw [←hv2];exact zcr w2 fb 7 _ 189 (0,0) hbw
     have HK:=zh (take3_any W1 g q E T1 bb w2 r nn a h2 hr0 hn0 ha0)
     have hok:(fS 3 E T1).1.OkL:=fS_ok HE.out h2.sz
     have HOK:=zh hok
     have hml:12-3<12-last:=by omega
     clear hv1 hv2 ha0 hn0 hp0 hr0 hblk hbw h2 hok
     go_wp2_with fail
     refine HK.out.mono ?_
     rintro e w4 ⟨rfl,h4⟩
     go_wp2
     go_roundw
     case rel=>exact ⟨m,3,_,_,_,hvm,by omega,rfl,HRR,h4,HOK.out⟩
     case measure=>simp [Go.RowKit.intOf];omega
    ·clear g1 g2 g3 g5 g6 g7 g8 g9 g10 g11
     obtain ⟨a,nn,p,r,_,hv1,hv2,ha0,hn0,hp0,hr0⟩:=g4
     have hbw:=h2.st _ _ _ hblk (by decide) (by decide) (by decide)
     have hf:w2.cell? ⟨fb,9,none⟩=some (.func (.func 199) #[] #[.pointer (some ⟨r,0,none⟩),.pointer (some ⟨nn,0,none⟩),.pointer (some ⟨a,0,none⟩)]):=by
      rw [←hv2];exact zcr w2 fb 9 _ 189 (0,0) hbw
     have HK:=zh (take4_any W1 g q E T1 bb w2 r nn a h2 hr0 hn0 ha0)
     have hok:(fS 4 E T1).1.OkL:=fS_ok HE.out h2.sz
     have HOK:=zh hok
     have hml:12-4<12-last:=by omega
     clear hv1 hv2 ha0 hn0 hp0 hr0 hblk hbw h2 hok
     go_wp2_with fail
     refine HK.out.mono ?_
     rintro e w4 ⟨rfl,h4⟩
     go_wp2
     go_roundw
     case rel=>exact ⟨m,4,_,_,_,hvm,by omega,rfl,HRR,h4,HOK.out⟩
     case measure=>simp [Go.RowKit.intOf];omega
    ·clear g1 g2 g3 g4 g6 g7 g8 g9 g10 g11
     obtain ⟨a,nn,p,r,_,hv1,hv2,ha0,hn0,hp0,hr0⟩:=g5
     have hbw:=h2.st _ _ _ hblk (by decide) (by decide) (by decide)
     have hf:w2.cell? ⟨fb,11,none⟩=some (.func (.func 199) #[] #[.pointer (some ⟨r,0,none⟩),.pointer (some ⟨nn,0,none⟩),.pointer (some ⟨a,0,none⟩)]):=by
      rw [←hv2];exact zcr w2 fb 11 _ 189 (0,0) hbw
     have HK:=zh (take5_any W1 g q E T1 bb w2 r nn a h2 hr0 hn0 ha0)
     have hok:(fS 5 E T1).1.OkL:=fS_ok HE.out h2.sz
     have HOK:=zh hok
     have hml:12-5<12-last:=by omega
     clear hv1 hv2 ha0 hn0 hp0 hr0 hblk hbw h2 hok
     go_wp2_with fail
     refine HK.out.mono ?_
     rintro e w4 ⟨rfl,h4⟩
     go_wp2
     go_roundw
     case rel=>exact ⟨m,5,_,_,_,hvm,by omega,rfl,HRR,h4,HOK.out⟩
     case measure=>simp [Go.RowKit.intOf];omega
    ·clear g1 g2 g3 g4 g5 g7 g8 g9 g10 g11
     obtain ⟨a,nn,p,r,_,hv1,hv2,ha0,hn0,hp0,hr0⟩:=g6
     have hbw:=h2.st _ _ _ hblk (by decide) (by decide) (by decide)
     have hf:w2.cell? ⟨fb,13,none⟩=some (.func (.func 199) #[] #[.pointer (some ⟨r,0,none⟩),.pointer (some ⟨nn,0,none⟩),.pointer (some ⟨a,0,none⟩)]):=by
      rw [←hv2];exact zcr w2 fb 13 _ 189 (0,0) hbw
     have HK:=zh (take6_any W1 g q E T1 bb w2 r nn a h2 hr0 hn0 ha0)
     have hok:(fS 6 E T1).1.OkL:=fS_ok HE.out h2.sz
     have HOK:=zh hok
     have hml:12-6<12-last:=by omega
     clear hv1 hv2 ha0 hn0 hp0 hr0 hblk hbw h2 hok
     go_wp2_with fail
     refine HK.out.mono ?_
     rintro e w4 ⟨rfl,h4⟩
     go_wp2
     go_roundw
     case rel=>exact ⟨m,6,_,_,_,hvm,by omega,rfl,HRR,h4,HOK.out⟩
     case measure=>simp [Go.RowKit.intOf];omega
    ·clear g1 g2 g3 g4 g5 g6 g8 g9 g10 g11
     obtain ⟨a,nn,p,r,_,hv1,hv2,ha0,hn0,hp0,hr0⟩:=g7
     have hbw:=h2.st _ _ _ hblk (by decide) (by decide) (by decide)
     have hf:w2.cell? ⟨fb,15,none⟩=some (.func (.func 199) #[] #[.pointer (some ⟨r,0,none⟩),.pointer (some ⟨nn,0,none⟩),.pointer (some ⟨a,0,none⟩)]):=by
      rw [←hv2];exact zcr w2 fb 15 _ 189 (0,0) hbw
     have HK:=zh (take7_any W1 g q E T1 bb w2 r nn a h2 hr0 hn0 ha0)
     have hok:(fS 7 E T1).1.OkL:=fS_ok HE.out h2.sz
     have HOK:=zh hok
     have hml:12-7<12-last:=by omega
     clear hv1 hv2 ha0 hn0 hp0 hr0 hblk hbw h2 hok
     go_wp2_with fail
     refine HK.out.mono ?_
     rintro e w4 ⟨rfl,h4⟩
     go_wp2
     go_roundw
     case rel=>exact ⟨m,7,_,_,_,hvm,by omega,rfl,HRR,h4,HOK.out⟩
     case measure=>simp [Go.RowKit.intOf];omega
    ·clear g1 g2 g3 g4 g5 g6 g7 g9 g10 g11
     obtain ⟨a,nn,p,r,_,hv1,hv2,ha0,hn0,hp0,hr0⟩:=g8
     have hbw:=h2.st _ _ _ hblk (by decide) (by decide) (by decide)
     have hf:w2.cell? ⟨fb,17,none⟩=some (.func (.func 196) #[] #[.pointer (some ⟨r,0,none⟩),.pointer (some ⟨nn,0,none⟩),.pointer (some ⟨a,0,none⟩)]):=by
      rw [←hv2];exact zcr w2 fb 17 _ 189 (0,0) hbw
     have HK:=zh (take8_any W1 g q E T1 bb w2 r nn a h2 hr0 hn0 ha0)
     have hok:(fS 8 E T1).1.OkL:=fS_ok HE.out h2.sz
     have HOK:=zh hok
     have hml:12-8<12-last:=by omega
     clear hv1 hv2 ha0 hn0 hp0 hr0 hblk hbw h2 hok
     go_wp2_with fail
     refine HK.out.mono ?_
     rintro e w4 ⟨rfl,h4⟩
     go_wp2
     go_roundw
     case rel=>exact ⟨m,8,_,_,_,hvm,by omega,rfl,HRR,h4,HOK.out⟩
     case measure=>simp [Go.RowKit.intOf];omega
    ·clear g1 g2 g3 g4 g5 g6 g7 g8 g10 g11
     obtain ⟨a,nn,p,r,_,hv1,hv2,ha0,hn0,hp0,hr0⟩:=g9
     have hbw:=h2.st _ _ _ hblk (by decide) (by decide) (by decide)
     have hf:w2.cell? ⟨fb,19,none⟩=some (.func (.func 196) #[] #[.pointer (some ⟨r,0,none⟩),.pointer (some ⟨nn,0,none⟩),.pointer (some ⟨a,0,none⟩)]):=by
      rw [←hv2];exact zcr w2 fb 19 _ 189 (0,0) hbw
     have HK:=zh (take9_any W1 g q E T1 bb w2 r nn a h2 hr0 hn0 ha0)
     have hok:(fS 9 E T1).1.OkL:=fS_ok HE.out h2.sz
     have HOK:=zh hok
     have hml:12-9<12-last:=by omega
     clear hv1 hv2 ha0 hn0 hp0 hr0 hblk hbw h2 hok
     go_wp2_with fail
     refine HK.out.mono ?_
     rintro e w4 ⟨rfl,h4⟩
     go_wp2
     go_roundw
     case rel=>exact ⟨m,9,_,_,_,hvm,by omega,rfl,HRR,h4,HOK.out⟩
     case measure=>simp [Go.RowKit.intOf];omega
    ·clear g1 g2 g3 g4 g5 g6 g7 g8 g9 g11
     obtain ⟨a,nn,p,r,_,hv1,hv2,ha0,hn0,hp0,hr0⟩:=g10
     have hbw:=h2.st _ _ _ hblk (by decide) (by decide) (by decide)
     have hf:w2.cell? ⟨fb,21,none⟩=some (.func (.func 202) #[] #[.pointer (some ⟨r,0,none⟩),.pointer (some ⟨nn,0,none⟩),.pointer (some ⟨a,0,none⟩)]):=by
      rw [←hv2];exact zcr w2 fb 21 _ 189 (0,0) hbw
     have HK:=zh (take10_any W1 g q E T1 bb w2 r nn a h2 hr0 hn0 ha0)
     have hok:(fS 10 E T1).1.OkL:=fS_ok HE.out h2.sz
     have HOK:=zh hok
     have hml:12-10<12-last:=by omega
     clear hv1 hv2 ha0 hn0 hp0 hr0 hblk hbw h2 hok
     go_wp2_with fail
     refine HK.out.mono ?_
     rintro e w4 ⟨rfl,h4⟩
     go_wp2
     go_roundw
     case rel=>exact ⟨m,10,_,_,_,hvm,by omega,rfl,HRR,h4,HOK.out⟩
     case measure=>simp [Go.RowKit.intOf];omega
    ·clear g1 g2 g3 g4 g5 g6 g7 g8 g9 g10
     obtain ⟨a,nn,p,r,_,hv1,hv2,ha0,hn0,hp0,hr0⟩:=g11
     have hbw:=h2.st _ _ _ hblk (by decide) (by decide) (by decide)
     have hf:w2.cell? ⟨fb,23,none⟩=some (.func (.func 202) #[] #[.pointer (some ⟨r,0,none⟩),.pointer (some ⟨nn,0,none⟩),.pointer (some ⟨a,0,none⟩)]):=by
      rw [←hv2];exact zcr w2 fb 23 _ 189 (0,0) hbw
     have HK:=zh (take11_any W1 g q E T1 bb w2 r nn a h2 hr0 hn0 ha0)
     have hok:(fS 11 E T1).1.OkL:=fS_ok HE.out h2.sz
     have HOK:=zh hok
     have hml:12-11<12-last:=by omega
     clear hv1 hv2 ha0 hn0 hp0 hr0 hblk hbw h2 hok
     go_wp2_with fail
     refine HK.out.mono ?_
     rintro e w4 ⟨rfl,h4⟩
     go_wp2
     go_roundw
     case rel=>exact ⟨m,11,_,_,_,hvm,by omega,rfl,HRR,h4,HOK.out⟩
     case measure=>simp [Go.RowKit.intOf];omega
end Go.Proofs.YtnobeoppffoomaaGreat
