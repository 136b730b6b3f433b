/-
  WalPlays: E P PutE.
  Conditions: named in each theorem.
-/
import Derived.Test.YtnobeoppffoomaaGreatP11
import Derived.Test.YtnobeoppffoomaaGreatP05
import Derived.Laws.EntriesVeiled
import Derived.Test.YtnobeoppffoomaaGreatP0
set_option linter.unusedVariables false
set_option linter.unusedSimpArgs false
set_option maxHeartbeats 8000000
set_option maxRecDepth 100000
namespace Go.Proofs.YtnobeoppffoomaaGreat
open Go.RowKit
def fN (v:Int) (k:Int):ByteArray:=Vi.fxB v.toNat k
def pb (e:En):ByteArray :=
 fN e.kind 1++fN e.term 8++fN e.index 8++fN e.client 8++fN e.seq 8++fN e.block 4++fN e.many 4++fN e.node 1++fN e.level 1++fN e.data.size 1++(e.data++zer (66-e.data.size))
def mayB (e:En):Bool:=rightB e&&(lvl e.kind==1)
def putS (e:En):ByteArray:=if mayB e then pb e else ⟨#[]⟩
theorem fN_size (v k:Int) (h0:0≤k) (h:k≤8):(fN v k).size=k.toNat:=by
 obtain ⟨n,rfl⟩:=Int.eq_ofNat_of_zero_le h0
 exact Vi.fxB_size _ n (by omega)
structure Few (e:En):Prop where
 k0:0≤e.kind
 k1:e.kind≤11
 n0:0≤e.node
 n1:e.node≤7
 l0:0≤e.level
 l1:e.level≤2
 d:e.data.size≤64
 o:e.old.size≤64
 b:e.block≤4294967295
 m:e.many≤4294967295
theorem few_of {e:En} (ok:e.Ok) (h:rightB e=true):Few e:=by
 have A:=(asked_iff e ok).1 h
 have f:0≤e.kind∧e.kind≤11:=of_decide_eq_true A.f
 have hd:=A.d1
 have ho:=A.o1
 refine ⟨f.1,f.2,?_,?_,?_,?_,by omega,by omega,A.b1,A.m1⟩
 ·exact both (fun h=>by have:=A.n1 h;omega) (fun h=>by have:=A.n0 h;omega)
 ·exact both (fun h=>by have:=A.n1 h;omega) (fun h=>by have:=A.n0 h;omega)
 ·exact both (fun h=>by have:=A.l1 h;omega) (fun h=>by have:=A.l0 h;omega)
 ·exact both (fun h=>by have:=A.l1 h;omega) (fun h=>by have:=A.l0 h;omega)
theorem pb_size {e:En} (h:Few e):(pb e).size=110:=by
 have:=h.d
 unfold pb
 simp only [ByteArray.size_append,zer_size,fN_size _ 1 (by omega) (by omega),fN_size _ 8 (by omega) (by omega),fN_size _ 4 (by omega) (by omega)]
 omega
theorem kept_cells {w w1:World} {b i:Nat} {cs:Array Value} {T:TypeId} {fz:Nat×Nat} (h:Lib.OthersKept 5 (some b) w w1) (hi:w.heap[i]?=some (.cells cs T fz)) (hb:i≠b) (hT:T≠5):w1.heap[i]?=some (.cells cs T fz) :=
 h i _ hi (by simpa using hb) (fun c z he=>by simp at he;exact hT he.2.1)
structure We (w0:World) (B b:Nat) (e:En) (x:ByteArray) (r:Nat) (w:World):Prop where
 s:Ws w0 B b x w
 lb:b<w0.heap.size
 box:w.heap[w0.heap.size]?=some (.cells (ec e) 28 (0,0))
 fn:w.heap[w0.heap.size+1]?=some (.cells #[.func (.func 128) #[.pointer (some ⟨b,0,none⟩)] #[]] 182 (0,0))
 sz:x.size+r≤140737488000000
section
variable {w0:World} {B b:Nat} {e:En} {x:ByteArray} {r:Nat} {w w1:World}
theorem We.cell (h:We w0 B b e x r w) (i:Nat):w.cell? ⟨w0.heap.size,i,none⟩=(ec e)[i]?:=zcr w _ i _ 28 (0,0) h.box
theorem We.fcell (h:We w0 B b e x r w):w.cell? ⟨w0.heap.size+1,0,none⟩=some (.func (.func 128) #[.pointer (some ⟨b,0,none⟩)] #[]):=zcr w _ 0 _ 182 (0,0) h.fn
theorem We.drew (h:We w0 B b e x r w):We w0 B b e x r w.drew:=⟨h.s.drew,h.lb,h.box,h.fn,h.sz⟩
theorem We.below (h:We w0 B b e x r w) (hb:Below w.heap.size w w1):We w0 B b e x r w1 :=
 ⟨h.s.below hb,h.lb,(hb.block _ (zgx h.box)).trans h.box,(hb.block _ (zgx h.fn)).trans h.fn,h.sz⟩
theorem We.on {y:ByteArray} {r':Nat} (h:We w0 B b e x r w) (k:Ws w B b (x++y) w1) (hr:y.size+r'≤r):We w0 B b e (x++y) r' w1:=by
 have h1:=h.lb
 have h2:=h.sz
 exact ⟨⟨k.t,h.s.be.trans k.be,h.s.ok.trans k.ok,k.sz,Nat.le_trans h.s.sw k.sw⟩,h.lb,kept_cells k.ok h.box (by omega) (by decide),kept_cells k.ok h.fn (by omega) (by decide),by rw [ByteArray.size_append];omega⟩
theorem We.all (h:We w0 B b e x r w):We w0 B b e x r w∧w.cell? ⟨w0.heap.size,0,none⟩=some (.int .u64 e.term)∧w.cell? ⟨w0.heap.size,1,none⟩=some (.int .u64 e.index)∧w.cell? ⟨w0.heap.size,2,none⟩=some (.int .i64 e.kind)∧w.cell? ⟨w0.heap.size,3,none⟩=some (.int .u64 e.client)∧w.cell? ⟨w0.heap.size,4,none⟩=some (.int .u64 e.seq)∧w.cell? ⟨w0.heap.size,5,none⟩=some (.int .u64 e.block)∧w.cell? ⟨w0.heap.size,6,none⟩=some (.int .u64 e.many)∧w.cell? ⟨w0.heap.size,7,none⟩=some (.int .i64 e.node)∧w.cell? ⟨w0.heap.size,8,none⟩=some (.int .i64 e.level)∧w.cell? ⟨w0.heap.size,9,none⟩=some (.string e.data)∧w.cell? ⟨w0.heap.size+1,0,none⟩=some (.func (.func 128) #[.pointer (some ⟨b,0,none⟩)] #[]):=⟨h,h.cell 0,h.cell 1,h.cell 2,h.cell 3,h.cell 4,h.cell 5,h.cell 6,h.cell 7,h.cell 8,h.cell 9,h.fcell⟩
end
theorem we_number (w0:World) (B b:Nat) (e:En) (x:ByteArray) (r:Nat) (v k:Int) (w:World) (h:We w0 B b e x r w) (hr:8≤r) (hv:0≤v) (hk:0≤k∧k≤8) :
 Calls Tryz.prog 128 #[.pointer (some ⟨b,0,none⟩),.int .u64 v,.int .i64 k] w fun q w'=>q=.returned (.tuple #[])∧We w0 B b e (x++fN v k) (r-8) w'∧w'.cell? ⟨w0.heap.size,0,none⟩=some (.int .u64 e.term)∧w'.cell? ⟨w0.heap.size,1,none⟩=some (.int .u64 e.index)∧w'.cell? ⟨w0.heap.size,2,none⟩=some (.int .i64 e.kind)∧w'.cell? ⟨w0.heap.size,3,none⟩=some (.int .u64 e.client)∧w'.cell? ⟨w0.heap.size,4,none⟩=some (.int .u64 e.seq)∧w'.cell? ⟨w0.heap.size,5,none⟩=some (.int .u64 e.block)∧w'.cell? ⟨w0.heap.size,6,none⟩=some (.int .u64 e.many)∧w'.cell? ⟨w0.heap.size,7,none⟩=some (.int .i64 e.node)∧w'.cell? ⟨w0.heap.size,8,none⟩=some (.int .i64 e.level)∧w'.cell? ⟨w0.heap.size,9,none⟩=some (.string e.data)∧w'.cell? ⟨w0.heap.size+1,0,none⟩=some (.func (.func 128) #[.pointer (some ⟨b,0,none⟩)] #[]):=by
 obtain ⟨n,rfl⟩:=Int.eq_ofNat_of_zero_le hv
 obtain ⟨j,rfl⟩:=Int.eq_ofNat_of_zero_le hk.1
 have hs:(fN n j).size=j:=by rw [fN_size _ _ (by omega) (by omega)];omega
 have h1:=h.sz
 exact (number_any B b n j x w h.s.t (by omega) h.s.sz (by omega)).mono fun q w' ⟨h2,h3⟩=>⟨h2,(h.on (y:=fN n j) h3 (by omega)).all⟩
theorem we_small (w0:World) (B b:Nat) (e:En) (x:ByteArray) (r:Nat) (v:Int) (w:World) (h:We w0 B b e x r w) (hr:8≤r) (hv:0≤v∧v≤255) :
 Calls Tryz.prog 129 #[.int .i64 v,.pointer (some ⟨w0.heap.size+1,0,none⟩)] w fun q w'=>q=.returned (.tuple #[])∧We w0 B b e (x++fN v 1) (r-8) w'∧w'.cell? ⟨w0.heap.size,0,none⟩=some (.int .u64 e.term)∧w'.cell? ⟨w0.heap.size,1,none⟩=some (.int .u64 e.index)∧w'.cell? ⟨w0.heap.size,2,none⟩=some (.int .i64 e.kind)∧w'.cell? ⟨w0.heap.size,3,none⟩=some (.int .u64 e.client)∧w'.cell? ⟨w0.heap.size,4,none⟩=some (.int .u64 e.seq)∧w'.cell? ⟨w0.heap.size,5,none⟩=some (.int .u64 e.block)∧w'.cell? ⟨w0.heap.size,6,none⟩=some (.int .u64 e.many)∧w'.cell? ⟨w0.heap.size,7,none⟩=some (.int .i64 e.node)∧w'.cell? ⟨w0.heap.size,8,none⟩=some (.int .i64 e.level)∧w'.cell? ⟨w0.heap.size,9,none⟩=some (.string e.data)∧w'.cell? ⟨w0.heap.size+1,0,none⟩=some (.func (.func 128) #[.pointer (some ⟨b,0,none⟩)] #[]):=by
 have c:=h.fcell
 have hw:IntKind.u64.wrap v=v:=IntWalk.u64_in _ (by omega)
 have K:=zh (we_number w0 B b e x r v 1 w h hr hv.1 (by omega))
 clear h
 go_enter Tryz.func129,Tryz.ntmps129
 go_wp2_with (go_at_call 128;(with_reducible refine K.out.mono ?_);rintro q w1 ⟨rfl,h1⟩)
 go_end0
 exact ⟨rfl,h1⟩
theorem we_write (w0:World) (B b:Nat) (e:En) (x s:ByteArray) (r:Nat) (w:World) (h:We w0 B b e x r w) (hr:s.size≤r) :
 Calls Tryz.prog 37 #[.pointer (some ⟨b,0,none⟩),.string s] w fun q w'=>q=.returned (.tuple #[.int .i64 s.size,.nilIface])∧We w0 B b e (x++s) (r-s.size) w'∧w'.cell? ⟨w0.heap.size,0,none⟩=some (.int .u64 e.term)∧w'.cell? ⟨w0.heap.size,1,none⟩=some (.int .u64 e.index)∧w'.cell? ⟨w0.heap.size,2,none⟩=some (.int .i64 e.kind)∧w'.cell? ⟨w0.heap.size,3,none⟩=some (.int .u64 e.client)∧w'.cell? ⟨w0.heap.size,4,none⟩=some (.int .u64 e.seq)∧w'.cell? ⟨w0.heap.size,5,none⟩=some (.int .u64 e.block)∧w'.cell? ⟨w0.heap.size,6,none⟩=some (.int .u64 e.many)∧w'.cell? ⟨w0.heap.size,7,none⟩=some (.int .i64 e.node)∧w'.cell? ⟨w0.heap.size,8,none⟩=some (.int .i64 e.level)∧w'.cell? ⟨w0.heap.size,9,none⟩=some (.string e.data)∧w'.cell? ⟨w0.heap.size+1,0,none⟩=some (.func (.func 128) #[.pointer (some ⟨b,0,none⟩)] #[]):=by
 have h1:=h.sz
 exact (wwrite B b x s w h.s.t (by omega) h.s.sz).mono fun q w' ⟨h2,h3,h4,h5⟩=>⟨h2,(h.on (w1:=w') (y:=s) ⟨h3,h4,h5,Nat.le_trans h.s.sz h4.size,h4.size⟩ (by omega)).all⟩
theorem entry_any (B b:Nat) (e:En) (x:ByteArray) (w:World) (h:Wt B b x w) (hx:x.size≤140737487000000) (hB:B≤w.heap.size) (ok:e.Ok) (fw:Few e) :
 Calls Tryz.prog 105 #[.pointer (some ⟨b,0,none⟩),ev e] w fun q w'=>q=.returned (.tuple #[])∧Ws w B b (x++pb e) w':=by
 have hmf:∀ (fn:Fn) (first cap:Array Value) (w:World),(Instr.makeFunc fn first cap).run Tryz.prog w=.ok (.func fn first cap) w:=fun _ _ _ _=>rfl
 obtain ⟨W0,hW0⟩:∃ W0,W0=(w.alloc (Obj.cells (ec e) 28)).alloc (Obj.cells #[.func (.func 128) #[.pointer (some ⟨b,0,none⟩)] #[]] 182):=⟨_,rfl⟩
 have hb0:Below w.heap.size w W0:=by rw [hW0];exact ((Below.refl _ _).alloc (Nat.le_refl _) _).alloc (by simp) _
 have hlt:b<w.heap.size:=by rcases h with h|h<;>exact h.lt
 have S0:We w B b e x 1000 W0:=by
  have k0:W0.heap[w.heap.size]?=some (.cells (ec e) 28 (0,0)):=by
   rw [hW0];exact (Lib.alloc_old _ _ _ (by simp)).trans (heap_alloc_new w _)
  have k1:W0.heap[w.heap.size+1]?=some (.cells #[.func (.func 128) #[.pointer (some ⟨b,0,none⟩)] #[]] 182 (0,0)):=by
   have h:=heap_alloc_new (w.alloc (Obj.cells (ec e) 28)) (Obj.cells #[.func (.func 128) #[.pointer (some ⟨b,0,none⟩)] #[]] 182)
   rw [show (w.alloc (Obj.cells (ec e) 28)).heap.size=w.heap.size+1 by simp] at h
   rw [hW0];exact h
  exact ⟨(Ws.start h hB).below hb0,hlt,k0,k1,by omega⟩
 have S1:=S0.all
 have K53:=zh (we_number w B b e)
 have K54:=zh (we_small w B b e)
 have K55:=zh (we_write w B b e)
 have g1:=ok.t0
 have g2:=ok.i0
 have g3:=ok.c0
 have g4:=ok.s0
 have g5:=ok.b0
 have g6:=ok.m0
 have q1:0≤e.kind∧e.kind≤255:=⟨fw.k0,by have:=fw.k1;omega⟩
 have q2:0≤e.node∧e.node≤255:=⟨fw.n0,by have:=fw.n1;omega⟩
 have q3:0≤e.level∧e.level≤255:=⟨fw.l0,by have:=fw.l1;omega⟩
 have q4:0≤(e.data.size:Int)∧(e.data.size:Int)≤255:=by have:=fw.d;omega
 have q5:e.data.size≤64:=fw.d
 obtain ⟨S,c0,c1,c2,c3,c4,c5,c6,c7,c8,c9,cf⟩:=S1
 have HW0:=zh hW0
 clear hW0 hb0 hlt S0 h hx hB ok fw
 go_enter Tryz.func105,Tryz.ntmps105
 go_upto_region 3 with fail
 rw [←HW0.out]
 clear HW0
 have K38:Hid (∀ (x:ByteArray) (r:Nat) (W:World),We w B b e x r W→Calls Tryz.prog 130 #[.int .i64 (IntKind.i64.wrap (66-(e.data.size:Int)))] W fun q w'=>q=.returned (.string (zer (66-e.data.size)))∧We w B b e x r w'∧w'.cell? ⟨w.heap.size,9,none⟩=some (.string e.data)):=by
  intro x r W hW
  have q6:IntKind.i64.wrap ((66:Int)-e.data.size)=((66-e.data.size:Nat):Int):=(IntWalk.i64_in _ (by omega)).trans (by omega)
  rw [q6]
  exact (zeros_any _ W (by omega)).mono fun q w' ⟨h1,h2⟩=>⟨h1,(hW.below h2),(hW.below h2).cell 9⟩
 go_upto_region 13 with (first
  | (go_at_call 129;(with_reducible refine (K54.out _ _ _ _ S (by omega) (by assumption)).mono ?_);clear S c0 c1 c2 c3 c4 c5 c6 c7 c8 c9 cf;rintro q w1 ⟨rfl,S,c0,c1,c2,c3,c4,c5,c6,c7,c8,c9,cf⟩)
  | (go_at_call 128;(with_reducible refine (K53.out _ _ _ _ _ S (by omega) (by assumption) (by omega)).mono ?_);clear S c0 c1 c2 c3 c4 c5 c6 c7 c8 c9 cf;rintro q w1 ⟨rfl,S,c0,c1,c2,c3,c4,c5,c6,c7,c8,c9,cf⟩))
 have Sd:=S.drew
 go_region_held3 (fun w'=>w'.cell? ⟨w.heap.size,9,none⟩=some (.string e.data)) (first|exact c9|assumption) (first
  | (go_at_call 37;(with_reducible refine (K55.out _ _ _ _ Sd (by omega)).mono ?_);rintro q w13 ⟨rfl,T,d0,d1,d2,d3,d4,d5,d6,d7,d8,d9,df⟩))
 go_wp2_with fail
 have Td:=T.drew
 clear S c0 c1 c2 c3 c4 c5 c6 c7 c8 c9 cf Sd
 go_region_held3 (fun w'=>w'.cell? ⟨w.heap.size,9,none⟩=some (.string e.data)) (first|exact d9|assumption) (first
  | (go_at_call 130;(with_reducible refine (K38.out _ _ _ Td).mono ?_);rintro q w14 ⟨rfl,U,u9⟩)
  | (go_at_call 37;(with_reducible refine (K55.out _ _ _ _ U (by rw [zer_size];omega)).mono ?_);rintro q w15 ⟨rfl,V,v0,v1,v2,v3,v4,v5,v6,v7,v8,v9,vf⟩))
 go_wp2_with fail
 go_end0
 refine ⟨rfl,?_⟩
 have h:=V.s
 unfold pb
 simp only [Vi.append_assoc3] at h ⊢
 exact h
theorem may_any (e:En) (w:World) (ok:e.Ok) :
 Calls Tryz.prog 104 #[ev e] w fun q w'=>q=.returned (.bool (mayB e))∧Below w.heap.size w w':=by
 obtain ⟨W0,hW0⟩:∃ W0,W0=w.alloc (Obj.cells (ec e) 28):=⟨_,rfl⟩
 have hb0:Below w.heap.size w W0:=by rw [hW0];exact (Below.refl _ _).alloc (Nat.le_refl _) _
 have k0:W0.heap[w.heap.size]?=some (.cells (ec e) 28 (0,0)):=by rw [hW0];exact heap_alloc_new w _
 have KR:=zh (fun (W:World)=>right_any e W ok)
 have KL:=zh (fun (W:World)=>level_any e W)
 have HW0:=zh hW0
 have HB:=zh hb0
 have HK:=zh k0
 have hlt:w.heap.size<W0.heap.size:=(zgx k0)
 have HLT:=zh hlt
 obtain ⟨rb,hrb⟩:∃ rb,rb=rightB e:=⟨_,rfl⟩
 obtain ⟨lv,hlv⟩:∃ lv,lv=lvl e.kind:=⟨_,rfl⟩
 have HM:Hid (mayB e=(rb&&(lv==1))):=by show _=_;unfold mayB;rw [←hrb,←hlv]
 have HR:=zh hrb
 have HL:=zh hlv
 clear hW0 hb0 k0 ok hlt hrb hlv
 cases rb with
 | true =>
   go_enter Tryz.func104,Tryz.ntmps104
   go_wp2_with (first
    | (go_at_call 106;rw [←HW0.out];(with_reducible refine (KR.out _).mono ?_);rintro q w1 ⟨h1,hb1⟩;rw [←HR.out] at h1;subst h1;have k1:w1.heap[w.heap.size]?=some (.cells (ec e) 28 (0,0)):=(hb1.block _ HLT.out).trans HK.out;have c0:w1.cell? ⟨w.heap.size,0,none⟩=some (.int .u64 e.term):=zcr w1 _ 0 _ 28 (0,0) k1;have c1:w1.cell? ⟨w.heap.size,1,none⟩=some (.int .u64 e.index):=zcr w1 _ 1 _ 28 (0,0) k1;have c2:w1.cell? ⟨w.heap.size,2,none⟩=some (.int .i64 e.kind):=zcr w1 _ 2 _ 28 (0,0) k1;have c3:w1.cell? ⟨w.heap.size,3,none⟩=some (.int .u64 e.client):=zcr w1 _ 3 _ 28 (0,0) k1;have c4:w1.cell? ⟨w.heap.size,4,none⟩=some (.int .u64 e.seq):=zcr w1 _ 4 _ 28 (0,0) k1;have c5:w1.cell? ⟨w.heap.size,5,none⟩=some (.int .u64 e.block):=zcr w1 _ 5 _ 28 (0,0) k1;have c6:w1.cell? ⟨w.heap.size,6,none⟩=some (.int .u64 e.many):=zcr w1 _ 6 _ 28 (0,0) k1;have c7:w1.cell? ⟨w.heap.size,7,none⟩=some (.int .i64 e.node):=zcr w1 _ 7 _ 28 (0,0) k1;have c8:w1.cell? ⟨w.heap.size,8,none⟩=some (.int .i64 e.level):=zcr w1 _ 8 _ 28 (0,0) k1;have c9:w1.cell? ⟨w.heap.size,9,none⟩=some (.string e.data):=zcr w1 _ 9 _ 28 (0,0) k1;have c10:w1.cell? ⟨w.heap.size,10,none⟩=some (.string e.old):=zcr w1 _ 10 _ 28 (0,0) k1;have HB1:=zh (HB.out.trans (hb1.mono HB.out.size));clear k1 hb1)
    | (go_at_call 127;(with_reducible refine (KL.out _).mono ?_);rintro q w2 ⟨h2,hb2⟩;rw [←HL.out] at h2;subst h2;have HB2:=zh (HB1.out.trans (hb2.mono HB1.out.size));clear hb2))
   all_goals
    go_ret
    exact ⟨by rw [HM.out];rfl,HB2.out⟩
 | false =>
   go_enter Tryz.func104,Tryz.ntmps104
   go_wp2_with (first
    | (go_at_call 106;rw [←HW0.out];(with_reducible refine (KR.out _).mono ?_);rintro q w1 ⟨h1,hb1⟩;rw [←HR.out] at h1;subst h1;have HB1:=zh (HB.out.trans (hb1.mono HB.out.size));clear hb1))
   go_ret
   exact ⟨by rw [HM.out];rfl,HB1.out⟩
end Go.Proofs.YtnobeoppffoomaaGreat
namespace Go.Proofs.YtnobeoppffoomaaGreat
open Go.RowKit
namespace Vi
theorem fx_be5:∀ (l:List Nat),(∀ x∈l,x<256)→fx (be l) l.length=l:=by
 have key0:∀ (n:Nat) (l:List Nat),l.length=n→(∀ x∈l,x<256)→fx (be l) l.length=l:=by
  intro n
  induction n with
  | zero =>
   intro l hl _
   have:l=[]:=List.eq_nil_of_length_eq_zero hl
   subst this
   rfl
  | succ n ih0 =>
   intro l0 hl0 h0
   obtain ⟨l,b,rfl⟩:∃ l b,l0=l++[b]:=⟨l0.dropLast,l0.getLast (by intro e;rw [e] at hl0;simp at hl0),(List.dropLast_concat_getLast _).symm⟩
   have ih:=ih0 l (by simpa using hl0)
   have h:=h0
   have hb:b<256:=h b (by simp)
   have ih':=ih fun x hx=>h x (by simp [hx])
   rw [be_snoc,List.length_append,List.length_singleton]
   have key:∀ k,fx (be l*256+b) (k+1)=fx (be l) k++[b]:=by
    intro k
    induction k with
    | zero =>
      unfold fx fx
      simp
      omega
    | succ k ik =>
      rw [fx,ik,fx]
      have h1:(be l*256+b) / 256 ^ (k+1)=be l / 256 ^ k:=by
       rw [Nat.pow_succ',←Nat.div_div_eq_div_mul]
       congr 1
       omega
      rw [h1]
      rfl
   rw [key,ih']
 intro l h
 exact key0 l.length l rfl h
def sk (s:ByteArray) (k:Nat):ByteArray:=s.extract k s.size
theorem sk_size (s:ByteArray) (k:Nat):(sk s k).size=s.size-k:=by unfold sk;rw [ByteArray.size_extract];omega
theorem sk_sk (s:ByteArray) (a b:Nat):sk (sk s a) b=sk s (a+b):=by
 apply nums_inj
 unfold sk
 rw [nums_extract,nums_extract,nums_extract,ByteArray.size_extract]
 rw [List.drop_take,List.drop_drop,List.take_take]
 congr 1
 omega
theorem fix_yes (s:ByteArray) (k:Nat) (h:k≤8) (hs:k≤s.size):fixV s k=be ((nums s).take k)∧fixT s k=sk s k∧hasF s k=true:=by
 have e:hasF s k=true:=decide_eq_true (by omega)
 unfold fixV fixT
 rw [if_pos e,if_pos e]
 exact ⟨rfl,rfl,e⟩
theorem nums_sk (s:ByteArray) (k:Nat):nums (sk s k)=(nums s).drop k:=by
 unfold sk
 rw [nums_extract,List.take_of_length_le (by rw [List.length_drop,nums_length];omega)]
end Vi
open Vi
def t1 (s:ByteArray):ByteArray:=fixT s 1
def t2 (s:ByteArray):ByteArray:=fixT (t1 s) 8
def t3 (s:ByteArray):ByteArray:=fixT (t2 s) 8
def t4 (s:ByteArray):ByteArray:=fixT (t3 s) 8
def t5 (s:ByteArray):ByteArray:=fixT (t4 s) 8
def t6 (s:ByteArray):ByteArray:=fixT (t5 s) 4
def t7 (s:ByteArray):ByteArray:=fixT (t6 s) 4
def t8 (s:ByteArray):ByteArray:=fixT (t7 s) 1
def t9 (s:ByteArray):ByteArray:=fixT (t8 s) 1
def t10 (s:ByteArray):ByteArray:=fixT (t9 s) 1
def nd (s:ByteArray):Nat:=fixV (t9 s) 1
def hd10 (s:ByteArray):Bool:=hasF s 1&&hasF (t1 s) 8&&hasF (t2 s) 8&&hasF (t3 s) 8&&hasF (t4 s) 8&&hasF (t5 s) 4&&hasF (t6 s) 4&&hasF (t7 s) 1&&hasF (t8 s) 1&&hasF (t9 s) 1
def prd (s d:ByteArray):En :=
 ⟨fixV (t1 s) 8,fixV (t2 s) 8,fixV s 1,fixV (t3 s) 8,fixV (t4 s) 8,fixV (t5 s) 4,fixV (t6 s) 4,fixV (t7 s) 1,fixV (t8 s) 1,d,⟨#[]⟩⟩
theorem t_all (s:ByteArray) (h:44≤s.size) :
 t1 s=sk s 1∧t2 s=sk s 9∧t3 s=sk s 17∧t4 s=sk s 25∧t5 s=sk s 33∧t6 s=sk s 37∧t7 s=sk s 41∧t8 s=sk s 42∧t9 s=sk s 43∧t10 s=sk s 44∧hd10 s=true:=by
 have a1:=fix_yes s 1 (by omega) (by omega)
 have e1:t1 s=sk s 1:=a1.2.1
 have a2:=fix_yes (sk s 1) 8 (by omega) (by rw [sk_size];omega)
 have e2:t2 s=sk s 9:=by unfold t2;rw [e1];exact a2.2.1.trans (sk_sk _ _ _)
 have a3:=fix_yes (sk s 9) 8 (by omega) (by rw [sk_size];omega)
 have e3:t3 s=sk s 17:=by unfold t3;rw [e2];exact a3.2.1.trans (sk_sk _ _ _)
 have a4:=fix_yes (sk s 17) 8 (by omega) (by rw [sk_size];omega)
 have e4:t4 s=sk s 25:=by unfold t4;rw [e3];exact a4.2.1.trans (sk_sk _ _ _)
 have a5:=fix_yes (sk s 25) 8 (by omega) (by rw [sk_size];omega)
 have e5:t5 s=sk s 33:=by unfold t5;rw [e4];exact a5.2.1.trans (sk_sk _ _ _)
 have a6:=fix_yes (sk s 33) 4 (by omega) (by rw [sk_size];omega)
 have e6:t6 s=sk s 37:=by unfold t6;rw [e5];exact a6.2.1.trans (sk_sk _ _ _)
 have a7:=fix_yes (sk s 37) 4 (by omega) (by rw [sk_size];omega)
 have e7:t7 s=sk s 41:=by unfold t7;rw [e6];exact a7.2.1.trans (sk_sk _ _ _)
 have a8:=fix_yes (sk s 41) 1 (by omega) (by rw [sk_size];omega)
 have e8:t8 s=sk s 42:=by unfold t8;rw [e7];exact a8.2.1.trans (sk_sk _ _ _)
 have a9:=fix_yes (sk s 42) 1 (by omega) (by rw [sk_size];omega)
 have e9:t9 s=sk s 43:=by unfold t9;rw [e8];exact a9.2.1.trans (sk_sk _ _ _)
 have a10:=fix_yes (sk s 43) 1 (by omega) (by rw [sk_size];omega)
 have e10:t10 s=sk s 44:=by unfold t10;rw [e9];exact a10.2.1.trans (sk_sk _ _ _)
 refine ⟨e1,e2,e3,e4,e5,e6,e7,e8,e9,e10,?_⟩
 have b1:hasF s 1=true:=a1.2.2
 have b2:hasF (t1 s) 8=true:=by rw [e1];exact a2.2.2
 have b3:hasF (t2 s) 8=true:=by rw [e2];exact a3.2.2
 have b4:hasF (t3 s) 8=true:=by rw [e3];exact a4.2.2
 have b5:hasF (t4 s) 8=true:=by rw [e4];exact a5.2.2
 have b6:hasF (t5 s) 4=true:=by rw [e5];exact a6.2.2
 have b7:hasF (t6 s) 4=true:=by rw [e6];exact a7.2.2
 have b8:hasF (t7 s) 1=true:=by rw [e7];exact a8.2.2
 have b9:hasF (t8 s) 1=true:=by rw [e8];exact a9.2.2
 have b10:hasF (t9 s) 1=true:=by rw [e9];exact a10.2.2
 unfold hd10
 rw [b1,b2,b3,b4,b5,b6,b7,b8,b9,b10];rfl
theorem fixT_size5 (s:ByteArray) (k:Nat):hasF s k=true→k≤s.size∧(fixT s k).size=s.size-k:=by
 intro h
 have h1:0≤(k:Int)∧(k:Int)≤8∧(k:Int)≤s.size:=of_decide_eq_true h
 have h2:=fix_yes s k (by omega) (by omega)
 exact ⟨by omega,by rw [h2.2.1,sk_size]⟩
theorem hd10_size (s:ByteArray) (h:hd10 s=true):44≤s.size:=by
 unfold hd10 at h
 simp only [Bool.and_eq_true] at h
 obtain ⟨⟨⟨⟨⟨⟨⟨⟨⟨h1,h2⟩,h3⟩,h4⟩,h5⟩,h6⟩,h7⟩,h8⟩,h9⟩,h10⟩:=h
 have a1:=fixT_size5 _ 1 h1
 have a2:=fixT_size5 _ 8 h2
 have a3:=fixT_size5 _ 8 h3
 have a4:=fixT_size5 _ 8 h4
 have a5:=fixT_size5 _ 8 h5
 have a6:=fixT_size5 _ 4 h6
 have a7:=fixT_size5 _ 4 h7
 have a8:=fixT_size5 _ 1 h8
 have a9:=fixT_size5 _ 1 h9
 have a10:=fixT_size5 _ 1 h10
 have c1:(t1 s).size=s.size-1:=a1.2
 have c2:(t2 s).size=(t1 s).size-8:=a2.2
 have c3:(t3 s).size=(t2 s).size-8:=a3.2
 have c4:(t4 s).size=(t3 s).size-8:=a4.2
 have c5:(t5 s).size=(t4 s).size-8:=a5.2
 have c6:(t6 s).size=(t5 s).size-4:=a6.2
 have c7:(t7 s).size=(t6 s).size-4:=a7.2
 have c8:(t8 s).size=(t7 s).size-1:=a8.2
 have c9:(t9 s).size=(t8 s).size-1:=a9.2
 omega
def dat (s:ByteArray):ByteArray:=bytV (t10 s) (nd s)
def t11 (s:ByteArray):ByteArray:=bytT (t10 s) (nd s)
def beh (s:ByteArray):ByteArray:=bytV (t11 s) (66-(nd s:Int))
def t12 (s:ByteArray):ByteArray:=bytT (t11 s) (66-(nd s:Int))
def prs (s:ByteArray):En:=prd s (dat s)
def allO (s:ByteArray):Bool:=hd10 s&&hasB (t10 s) (nd s)&&hasB (t11 s) (66-(nd s:Int))
def getO (s:ByteArray):Bool:=allO s&&(mayB (prs s)&&decide (nums (beh s)=nums (zer (beh s).size)))
def getE (s:ByteArray):En:=if getO s then prs s else ⟨0,0,0,0,0,0,0,0,0,⟨#[]⟩,⟨#[]⟩⟩
def getT (s:ByteArray):ByteArray:=if getO s then sk s 110 else ⟨#[]⟩
theorem byt_yes (s:ByteArray) (n:Nat) (h:n≤s.size):bytV s n=s.extract 0 n∧bytT s n=sk s n∧hasB s n=true:=by
 have e:hasB s n=true:=decide_eq_true (by omega)
 unfold bytV bytT
 rw [if_pos e,if_pos e]
 exact ⟨by simp,by unfold sk;simp,e⟩
theorem allO_iff (s:ByteArray):allO s=true↔110≤s.size∧nd s≤66:=by
 constructor
 ·intro h
  unfold allO at h
  simp only [Bool.and_eq_true] at h
  obtain ⟨⟨h1,h2⟩,h3⟩:=h
  have hs:=hd10_size s h1
  obtain ⟨_,_,_,_,_,_,_,_,_,e10,_⟩:=t_all s hs
  have a2:0≤(nd s:Int)∧(nd s:Int)≤(t10 s).size:=of_decide_eq_true h2
  have a3:0≤66-(nd s:Int)∧66-(nd s:Int)≤(t11 s).size:=of_decide_eq_true h3
  have b:=byt_yes (t10 s) (nd s) (by omega)
  have c:(t11 s).size=(t10 s).size-nd s:=by unfold t11;rw [b.2.1,sk_size]
  rw [e10,sk_size] at a2 c
  omega
 ·rintro ⟨h1,h2⟩
  obtain ⟨_,_,_,_,_,_,_,_,_,e10,e⟩:=t_all s (by omega)
  have b:=byt_yes (t10 s) (nd s) (by rw [e10,sk_size];omega)
  have c:(t11 s).size=s.size-44-nd s:=by unfold t11;rw [b.2.1,sk_size,e10,sk_size]
  have q:(66:Int)-(nd s:Int)=((66-nd s:Nat):Int):=by omega
  have b2:=byt_yes (t11 s) (66-nd s) (by rw [c];omega)
  unfold allO
  rw [e,b.2.2,q,b2.2.2];rfl
theorem t_rest (s:ByteArray) (h:110≤s.size) (hn:nd s≤66):dat s=(sk s 44).extract 0 (nd s)∧beh s=(sk s (44+nd s)).extract 0 (66-nd s)∧t12 s=sk s 110:=by
 obtain ⟨_,_,_,_,_,_,_,_,_,e10,e⟩:=t_all s (by omega)
 have b:=byt_yes (t10 s) (nd s) (by rw [e10,sk_size];omega)
 have e11:t11 s=sk s (44+nd s):=by unfold t11;rw [b.2.1,e10,sk_sk]
 have q:(66:Int)-(nd s:Int)=((66-nd s:Nat):Int):=by omega
 have b2:=byt_yes (t11 s) (66-nd s) (by rw [e11,sk_size];omega)
 refine ⟨?_,?_,?_⟩
 ·unfold dat;rw [b.1,e10]
 ·unfold beh;rw [q,b2.1,e11]
 ·unfold t12;rw [q,b2.2.1,e11,sk_sk,show 44+nd s+(66-nd s)=110 by omega]
theorem nums_zer (n:Nat):nums (zer n)=List.replicate n 0:=by
 unfold nums zer
 simp
theorem nums_fN (v:Int) (k:Nat) (hk:k≤8):nums (fN v k)=fx v.toNat k:=by
 unfold fN
 rw [fxB_eq _ k hk,nums_str _ (fx_lt _ k)]
theorem nums_field (s:ByteArray) (a k:Nat) (hk:k≤8) (hs:a+k≤s.size):nums (fN ((fixV (sk s a) k:Nat):Int) k)=((nums s).drop a).take k:=by
 have hf:=fix_yes (sk s a) k hk (by rw [sk_size];omega)
 rw [nums_fN _ k hk,hf.1,nums_sk,Int.toNat_natCast]
 have hl:(((nums s).drop a).take k).length=k:=by rw [List.length_take,List.length_drop,nums_length];omega
 have h:=fx_be5 (((nums s).drop a).take k) fun x hx=>nums_lt s x (List.mem_of_mem_drop (List.mem_of_mem_take hx))
 rwa [hl] at h
theorem sk_zero (s:ByteArray):sk s 0=s:=by unfold sk;apply ByteArray.ext;simp
theorem take_split (l:List Nat) (a b:Nat):l.take (a+b)=l.take a++(l.drop a).take b:=List.take_add
theorem nums_pb (s d:ByteArray) (n:Nat) (h:110≤s.size) (hn:nd s=n) (hn6:n≤66) (hd:d=(sk s 44).extract 0 n) :
 nums (pb (prd s d))=(nums s).take (44+n)++List.replicate (66-n) 0:=by
 obtain ⟨e1,e2,e3,e4,e5,e6,e7,e8,e9,e10,_⟩:=t_all s (by omega)
 have hds:d.size=n:=by rw [hd,ByteArray.size_extract,sk_size];omega
 have hdn:nums d=((nums s).drop 44).take n:=by rw [hd,nums_extract,nums_sk,List.drop_zero,Nat.sub_zero]
 have hn9:((d.size:Nat):Int)=((fixV (sk s 43) 1:Nat):Int):=by
  rw [hds,←hn];unfold nd;rw [e9]
 have f0:nums (fN ((fixV s 1:Nat):Int) 1)=((nums s).drop 0).take 1:=by
  have f:=nums_field s 0 1 (by omega) (by omega)
  rw [sk_zero] at f
  exact f
 have f1:nums (fN ((fixV (sk s 1) 8:Nat):Int) 8)=((nums s).drop 1).take 8:=nums_field s 1 8 (by omega) (by omega)
 have f2:nums (fN ((fixV (sk s 9) 8:Nat):Int) 8)=((nums s).drop 9).take 8:=nums_field s 9 8 (by omega) (by omega)
 have f3:nums (fN ((fixV (sk s 17) 8:Nat):Int) 8)=((nums s).drop 17).take 8:=nums_field s 17 8 (by omega) (by omega)
 have f4:nums (fN ((fixV (sk s 25) 8:Nat):Int) 8)=((nums s).drop 25).take 8:=nums_field s 25 8 (by omega) (by omega)
 have f5:nums (fN ((fixV (sk s 33) 4:Nat):Int) 4)=((nums s).drop 33).take 4:=nums_field s 33 4 (by omega) (by omega)
 have f6:nums (fN ((fixV (sk s 37) 4:Nat):Int) 4)=((nums s).drop 37).take 4:=nums_field s 37 4 (by omega) (by omega)
 have f7:nums (fN ((fixV (sk s 41) 1:Nat):Int) 1)=((nums s).drop 41).take 1:=nums_field s 41 1 (by omega) (by omega)
 have f8:nums (fN ((fixV (sk s 42) 1:Nat):Int) 1)=((nums s).drop 42).take 1:=nums_field s 42 1 (by omega) (by omega)
 have f9:nums (fN ((fixV (sk s 43) 1:Nat):Int) 1)=((nums s).drop 43).take 1:=nums_field s 43 1 (by omega) (by omega)
 unfold pb prd
 dsimp only
 rw [hn9,e1,e2,e3,e4,e5,e6,e7,e8]
 simp only [nums_append]
 rw [f0,f1,f2,f3,f4,f5,f6,f7,f8,f9,hdn,nums_zer,hds]
 have g:(nums s).take (44+n)=((nums s).drop 0).take 1++((nums s).drop 1).take 8++((nums s).drop 9).take 8++((nums s).drop 17).take 8++((nums s).drop 25).take 8++((nums s).drop 33).take 4++((nums s).drop 37).take 4++((nums s).drop 41).take 1++((nums s).drop 42).take 1++((nums s).drop 43).take 1++((nums s).drop 44).take n:=by
  rw [take_split,show (44:Nat)=43+1 from rfl,take_split,show (43:Nat)=42+1 from rfl,take_split,show (42:Nat)=41+1 from rfl,take_split,show (41:Nat)=37+4 from rfl,take_split,show (37:Nat)=33+4 from rfl,take_split,show (33:Nat)=25+8 from rfl,take_split,show (25:Nat)=17+8 from rfl,take_split,show (17:Nat)=9+8 from rfl,take_split,show (9:Nat)=1+8 from rfl,take_split]
  rfl
 rw [g]
 simp only [List.append_assoc]
theorem pb_iff (s:ByteArray) (h:110≤s.size) (hn:nd s≤66):(nums (pb (prs s))=nums (s.extract 0 110))↔nums (beh s)=nums (zer (beh s).size):=by
 obtain ⟨h1,h2,_⟩:=t_rest s h hn
 have hp:=nums_pb s (dat s) (nd s) h rfl hn h1
 have hb:nums (beh s)=((nums s).drop (44+nd s)).take (66-nd s):=by rw [h2,nums_extract,nums_sk,List.drop_zero,Nat.sub_zero]
 have hbs:(beh s).size=66-nd s:=by rw [h2,ByteArray.size_extract,sk_size];omega
 have hx:nums (s.extract 0 110)=(nums s).take (44+nd s)++((nums s).drop (44+nd s)).take (66-nd s):=by
  rw [nums_extract,List.drop_zero,Nat.sub_zero,←take_split,show 44+nd s+(66-nd s)=110 by omega]
 have hz:nums (zer (beh s).size)=List.replicate (66-nd s) 0:=by rw [nums_zer,hbs]
 rw [hx,hz,hb]
 unfold prs
 rw [hp,List.append_cancel_left_eq]
 exact ⟨fun e=>e.symm,fun e=>e.symm⟩
def ren (s:ByteArray):En:=prd s ((bytV (t10 s) 66).extract 0 (min (nd s) 66))
theorem getO_size {s:ByteArray} (h:getO s=true):110≤s.size∧nd s≤66:=by
 unfold getO at h
 simp only [Bool.and_eq_true] at h
 exact (allO_iff s).1 h.1
theorem take_prd (s d:ByteArray) (h:110≤s.size):prd (s.extract 0 110) d=prd s d∧nd (s.extract 0 110)=nd s∧(bytV (t10 (s.extract 0 110)) 66).extract 0 (min (nd s) 66)=(sk s 44).extract 0 (min (nd s) 66):=by
 have hs:(s.extract 0 110).size=110:=by rw [ByteArray.size_extract];omega
 obtain ⟨e1,e2,e3,e4,e5,e6,e7,e8,e9,e10,_⟩:=t_all s (by omega)
 obtain ⟨g1,g2,g3,g4,g5,g6,g7,g8,g9,g10,_⟩:=t_all (s.extract 0 110) (by omega)
 have key:∀ a k:Nat,k≤8→a+k≤110→fixV (sk (s.extract 0 110) a) k=fixV (sk s a) k:=by
  intro a k hk ha
  have hq1:k≤(sk (s.extract 0 110) a).size:=by rw [sk_size,hs];omega
  have hq2:k≤(sk s a).size:=by rw [sk_size];omega
  rw [(fix_yes _ k hk hq1).1,(fix_yes _ k hk hq2).1,nums_sk,nums_sk,nums_extract,List.drop_zero,List.drop_take,List.take_take,Nat.min_eq_left (by omega)]
 have k0:=key 0 1 (by omega) (by omega)
 rw [sk_zero,sk_zero] at k0
 have hnd:nd (s.extract 0 110)=nd s:=by unfold nd;rw [g9,e9];exact key 43 1 (by omega) (by omega)
 refine ⟨?_,hnd,?_⟩
 ·unfold prd
  rw [g1,g2,g3,g4,g5,g6,g7,g8,e1,e2,e3,e4,e5,e6,e7,e8]
  rw [show fixV (s.extract 0 110) 1=fixV s 1 from k0,show fixV (sk (s.extract 0 110) 1) 8=fixV (sk s 1) 8 from key 1 8 (by omega) (by omega),show fixV (sk (s.extract 0 110) 9) 8=fixV (sk s 9) 8 from key 9 8 (by omega) (by omega),show fixV (sk (s.extract 0 110) 17) 8=fixV (sk s 17) 8 from key 17 8 (by omega) (by omega),show fixV (sk (s.extract 0 110) 25) 8=fixV (sk s 25) 8 from key 25 8 (by omega) (by omega),show fixV (sk (s.extract 0 110) 33) 4=fixV (sk s 33) 4 from key 33 4 (by omega) (by omega),show fixV (sk (s.extract 0 110) 37) 4=fixV (sk s 37) 4 from key 37 4 (by omega) (by omega),show fixV (sk (s.extract 0 110) 41) 1=fixV (sk s 41) 1 from key 41 1 (by omega) (by omega),show fixV (sk (s.extract 0 110) 42) 1=fixV (sk s 42) 1 from key 42 1 (by omega) (by omega)]
 ·rw [g10,show ((66:Int))=((66:Nat):Int) from rfl,(byt_yes _ 66 (by rw [sk_size];omega)).1]
  apply nums_inj
  simp only [nums_extract,nums_sk,List.drop_zero,Nat.sub_zero,List.drop_take,List.take_take]
  trace_state
  exact congrArg (fun q=>List.take q (List.drop 44 (nums s))) (by omega)
theorem ren_iff (s:ByteArray) (h:110≤s.size):(mayB (ren (s.extract 0 110))&&decide (nums (pb (ren (s.extract 0 110)))=nums (s.extract 0 110)))=getO s∧(getO s=true→ren (s.extract 0 110)=prs s):=by
 obtain ⟨q1,q2,q3⟩:=take_prd s ((sk s 44).extract 0 (min (nd s) 66)) h
 have hr:ren (s.extract 0 110)=prd s ((sk s 44).extract 0 (min (nd s) 66)):=by unfold ren;rw [q2,q3,q1]
 by_cases hn:nd s≤66
 ·have hd:=(t_rest s h hn).1
  have he:ren (s.extract 0 110)=prs s:=by rw [hr,Nat.min_eq_left hn];unfold prs;rw [hd]
  refine ⟨?_,fun _=>he⟩
  rw [he]
  have ha:allO s=true:=(allO_iff s).2 ⟨h,hn⟩
  unfold getO
  rw [ha,Bool.true_and]
  exact congrArg (fun b=>mayB (prs s)&&b) (decide_eq_decide.2 (pb_iff s h hn))
 ·have hg:getO s=false:=by
   cases hh:getO s with
   | false=>rfl
   | true=>exact absurd (getO_size hh).2 hn
  refine ⟨?_,fun e=>by rw [hg] at e;cases e⟩
  rw [hg]
  have hm:mayB (ren (s.extract 0 110))=false:=by
   cases hh:mayB (ren (s.extract 0 110)) with
   | false=>rfl
   | true =>
     exfalso
     have hs:(ren (s.extract 0 110)).data.size=66:=by
      rw [hr]
      show ((sk s 44).extract 0 (min (nd s) 66)).size=66
      rw [ByteArray.size_extract,sk_size];omega
     unfold mayB at hh
     simp only [Bool.and_eq_true] at hh
     have hR:=hh.1
     unfold rightB asks at hR
     simp only [List.all_cons,List.all_nil,id,Bool.and_true,Bool.and_eq_true,lim_facts] at hR
     have h9:=hR.2.2.2.2.2.2.2.2.2.1
     rw [hs] at h9
     cases hb:hasL (fl (ren (s.extract 0 110)).kind) 100 with
     | true=>exact absurd (h9.1 hb).2 (by decide)
     | false=>exact absurd (h9.2 hb) (by decide)
  rw [hm];rfl
end Go.Proofs.YtnobeoppffoomaaGreat
namespace Go.Proofs.YtnobeoppffoomaaGreat
open Go.RowKit
theorem mayB_right {e:En} (h:mayB e=true):rightB e=true:=by
 unfold mayB at h
 simp only [Bool.and_eq_true] at h
 exact h.1
theorem fresh_wt (w:World) (B:Nat) (hB:B≤w.heap.size):Wt B w.heap.size ⟨#[]⟩ (w.alloc (.cells #[.pointer none,.slice none 0 0] 158)):=by
 refine .inl ⟨hB,.slice none 0 0,heap_alloc_new w _,World.ownsRow_nil _ _ _ _,by simp [Value.ownBlock]⟩
theorem ret_pair {a b:ByteArray} {x y:Bool} (h:a=b) (k:x=y):Ending.returned (.tuple #[.string a,.bool x])=.returned (.tuple #[.string b,.bool y]):=by rw [h,k]
theorem put_any5 (e:En) (w:World) (ok:e.Ok) :
 Calls Tryz.prog 78 #[ev e] w fun q w'=>q=.returned (.tuple #[.string (putS e),.bool (mayB e)])∧Below w.heap.size w w':=by
 obtain ⟨W0,hW0⟩:∃ W0,W0=w.alloc (Obj.cells (ec e) 28):=⟨_,rfl⟩
 have hb0:Below w.heap.size w W0:=by rw [hW0];exact (Below.refl _ _).alloc (Nat.le_refl _) _
 have k0:W0.heap[w.heap.size]?=some (.cells (ec e) 28 (0,0)):=by rw [hW0];exact heap_alloc_new w _
 have hlt:w.heap.size<W0.heap.size:=(zgx k0)
 have KM:=zh (fun (W:World)=>may_any e W ok)
 have HW0:=zh hW0
 have HB:=zh hb0
 have HK:=zh k0
 have HLT:=zh hlt
 have OK:=zh ok
 clear hW0 hb0 k0 ok hlt
 cases hm:mayB e with
 | false =>
   rw [hm] at KM
   have HP:Hid (putS e=⟨#[]⟩):=by show _=_;unfold putS;rw [hm];rfl
   clear hm
   go_enter Tryz.func78,Tryz.ntmps78
   go_wp2_with (first
    | (go_at_call 104;rw [←HW0.out];(with_reducible refine (KM.out _).mono ?_);rintro q w1 ⟨rfl,hb1⟩))
   go_ret2
   exact ⟨ret_pair HP.out.symm rfl,HB.out.trans (hb1.mono HB.out.size)⟩
 | true =>
   have fw:=few_of OK.out (mayB_right hm)
   have hes:(⟨#[]⟩:ByteArray).size≤140737487000000:=Nat.zero_le _
   rw [hm] at KM
   have HP:Hid (putS e=pb e):=by show _=_;unfold putS;rw [hm];rfl
   have HS:=zh (pb_size fw)
   have FW:=zh fw
   clear hm fw
   go_enter Tryz.func78,Tryz.ntmps78
   go_wp2_with (first
    | (go_at_call 104;rw [←HW0.out];(with_reducible refine (KM.out _).mono ?_);rintro q w1 ⟨rfl,hb1⟩;have k1:w1.heap[w.heap.size]?=some (.cells (ec e) 28 (0,0)):=(hb1.block _ HLT.out).trans HK.out;have c0:(w1.alloc (.cells #[.pointer none,.slice none 0 0] 158)).cell? ⟨w.heap.size,0,none⟩=some (.int .u64 e.term):=zcr _ _ 0 _ 28 (0,0) ((Lib.alloc_old w1 _ _ (zgx k1)).trans k1);have c1:(w1.alloc (.cells #[.pointer none,.slice none 0 0] 158)).cell? ⟨w.heap.size,1,none⟩=some (.int .u64 e.index):=zcr _ _ 1 _ 28 (0,0) ((Lib.alloc_old w1 _ _ (zgx k1)).trans k1);have c2:(w1.alloc (.cells #[.pointer none,.slice none 0 0] 158)).cell? ⟨w.heap.size,2,none⟩=some (.int .i64 e.kind):=zcr _ _ 2 _ 28 (0,0) ((Lib.alloc_old w1 _ _ (zgx k1)).trans k1);have c3:(w1.alloc (.cells #[.pointer none,.slice none 0 0] 158)).cell? ⟨w.heap.size,3,none⟩=some (.int .u64 e.client):=zcr _ _ 3 _ 28 (0,0) ((Lib.alloc_old w1 _ _ (zgx k1)).trans k1);have c4:(w1.alloc (.cells #[.pointer none,.slice none 0 0] 158)).cell? ⟨w.heap.size,4,none⟩=some (.int .u64 e.seq):=zcr _ _ 4 _ 28 (0,0) ((Lib.alloc_old w1 _ _ (zgx k1)).trans k1);have c5:(w1.alloc (.cells #[.pointer none,.slice none 0 0] 158)).cell? ⟨w.heap.size,5,none⟩=some (.int .u64 e.block):=zcr _ _ 5 _ 28 (0,0) ((Lib.alloc_old w1 _ _ (zgx k1)).trans k1);have c6:(w1.alloc (.cells #[.pointer none,.slice none 0 0] 158)).cell? ⟨w.heap.size,6,none⟩=some (.int .u64 e.many):=zcr _ _ 6 _ 28 (0,0) ((Lib.alloc_old w1 _ _ (zgx k1)).trans k1);have c7:(w1.alloc (.cells #[.pointer none,.slice none 0 0] 158)).cell? ⟨w.heap.size,7,none⟩=some (.int .i64 e.node):=zcr _ _ 7 _ 28 (0,0) ((Lib.alloc_old w1 _ _ (zgx k1)).trans k1);have c8:(w1.alloc (.cells #[.pointer none,.slice none 0 0] 158)).cell? ⟨w.heap.size,8,none⟩=some (.int .i64 e.level):=zcr _ _ 8 _ 28 (0,0) ((Lib.alloc_old w1 _ _ (zgx k1)).trans k1);have c9:(w1.alloc (.cells #[.pointer none,.slice none 0 0] 158)).cell? ⟨w.heap.size,9,none⟩=some (.string e.data):=zcr _ _ 9 _ 28 (0,0) ((Lib.alloc_old w1 _ _ (zgx k1)).trans k1);have c10:(w1.alloc (.cells #[.pointer none,.slice none 0 0] 158)).cell? ⟨w.heap.size,10,none⟩=some (.string e.old):=zcr _ _ 10 _ 28 (0,0) ((Lib.alloc_old w1 _ _ (zgx k1)).trans k1);have HB1:Hid (Below w.heap.size w w1):=zh (HB.out.trans (hb1.mono HB.out.size));have T1:=zh (fresh_wt w1 w.heap.size HB1.out.size);clear k1 hb1)
    | (go_at_call 105;(with_reducible refine (entry_any w.heap.size w1.heap.size e ⟨#[]⟩ _ T1.out hes (Nat.le_trans HB1.out.size (by simp)) OK.out FW.out).mono ?_);rintro q w2 ⟨rfl,S2⟩;have HS2:=zh S2;clear S2)
    | (go_at_call 41;(with_reducible refine (wstring w.heap.size w1.heap.size _ _ HS2.out.t (by rw [ByteArray.size_append,HS.out];omega)).mono ?_);rintro q w3 ⟨rfl,hb3⟩))
   go_ret2
   refine ⟨ret_pair ?_ rfl,((HB1.out.alloc HB1.out.size _).trans HS2.out.be).trans hb3⟩
   rw [HP.out]
   apply ByteArray.ext;simp
end Go.Proofs.YtnobeoppffoomaaGreat
