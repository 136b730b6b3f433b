/- Parts of a proof. -/
import Derived.Test.YtidndekacnmihaaGreatF19
set_option linter.unusedVariables false
set_option linter.unusedSimpArgs false
set_option maxHeartbeats 8000000
set_option maxRecDepth 100000
namespace Go.Proofs.YtidndekacnmihaaGreat.J
open Go.RowKit Vi Sl
theorem zcY {T E:TypeId} {g clock i:Nat} {es:Array MapEntry} (c:Int) (v:Value) {w:World} (hT:Tryz.prog.underlying T=some (.map 3 E)) (hb:w.heap[g]?=some (.map es clock))
 (hf:Instr.findNow (.int .i64) (.int .i64 c) es.toList 0=some (some (i,v))) :
 (Instr.lookup T (.map (some g)) (.int .i64 c) false).run Tryz.prog w=.ok v w:=by
 have hk:Tryz.prog.underlying 3=some (.int .i64):=Tryz.underlying3;have hc:(Instr.checkKey es.isEmpty 10000 3 (.int .i64 c)).run Tryz.prog w=.ok () w:=MapKept.run_checkKey (k:=.int .i64 c) hk (by simp [MapKept.IsKey]) es.isEmpty 9999;simp [Instr.lookup,run_underlying hT,MapKept.run_getObj_map hb,hc,MapKept.run_findKey hk hf,Result.andThen]
structure Pq (w:World) (s:Su) (W:World):Prop where
 be:Below w.heap.size w W
 bx:W.heap[w.heap.size]?=some (.cells s.c 65 (0,0))
 lt:w.heap.size<W.heap.size
theorem Pq.c0 {w W:World} {s:Su} (h:Pq w s W):W.cell? ⟨w.heap.size,0,none⟩=some (.int .i64 s.v):=(zat h.bx).1
theorem Pq.drew {w W:World} {s:Su} (h:Pq w s W):Pq w s W.drew:=⟨h.be.drew,h.bx,h.lt⟩
theorem Pq.below {w W W':World} {s:Su} (h:Pq w s W) (hb:Below W.heap.size W W'):Pq w s W' :=
 ⟨h.be.trans (hb.mono h.be.size),(hb.block _ h.lt).trans h.bx,zs8 h.lt hb.size⟩
theorem Pq.alloc {w W:World} {s:Su} (h:Pq w s W) (o:Obj):Pq w s (W.alloc o):=h.below zba
theorem Pq.set {w W:World} {s:Su} (h:Pq w s W) (c:Nat) (hc:w.heap.size<c) (v:Value):Pq w s (W.setCell ⟨c,0,none⟩ v) :=
 ⟨h.be.setCell (p:=⟨c,0,none⟩) (by show w.heap.size≤c;omega) _,(heap_setCell_other W ⟨c,0,none⟩ w.heap.size v (by simp;omega)).trans h.bx,by simpa using h.lt⟩
theorem zln {w W:World} {s:Su} (h:Pq w s W):Calls Tryz.prog 165 #[] W fun r w'=>∃ g,r=.returned (.map (some g))∧Pq w s w'∧w'.heap[g]?=some (.map (two (fv 166) (fv 210)) 2)∧Below W.heap.size W w' :=
 (zeC W).mono fun r w' ⟨h1,h2,h3,_⟩=>⟨_,h1,h.below h3,h2,h3⟩
theorem zcZ (w:World) (B:Nat) (hB:B≤w.heap.size):Wt B w.heap.size ⟨#[]⟩ (w.alloc (.cells #[.pointer none,.slice none 0 0] 230)):=by
 have h:=Lib.fresh_isBuilder 230 5 w;rcases h with h|h
 ·obtain ⟨h1,v,h2,h3,h4⟩:=h;refine .inl ⟨hB,v,h2,?_,h4⟩
  obtain rfl:v=.slice none 0 0:=by
   have e:=zsz w (.cells #[.pointer none,.slice none 0 0] 230);rw [e] at h2;simp at h2;exact h2.symm
  exact ztq _ _ _ _
 ·obtain ⟨h1,v,h2,_⟩:=h;have e:=zsz w (.cells #[.pointer none,.slice none 0 0] 230);rw [e] at h2;simp at h2
structure Pw (w:World) (s:Su) (fn c b:Nat) (x:ByteArray) (W:World):Prop where
 q:Pq w s W
 fc:W.heap[c]?=some (.cells #[fv fn] 225 (0,0))
 wt:Wt b b x W
 l1:w.heap.size<c
 l2:c<b
 l3:b≤W.heap.size
theorem Pw.step {w W W':World} {s:Su} {fn c b:Nat} {x y:ByteArray} (h:Pw w s fn c b x W) (hs:Ws W b b y W'):Pw w s fn c b y W' :=
 ⟨⟨h.q.be.trans (hs.be.mono (by have:=h.l1;have:=h.l2;omega)),(hs.be.block _ (by have:=h.l1;have:=h.l2;omega)).trans h.q.bx,zs8 h.q.lt hs.sw⟩,(hs.be.block _ h.l2).trans h.fc,hs.t,h.l1,h.l2,hs.sz⟩
theorem zhi {w:World} {s:Su} {c b:Nat} {x:ByteArray} (n:Nat) (hn:n<65536) (W:World) (h:Pw w s 166 c b x W) (hx:x.size≤1000) :
 Calls Tryz.prog 169 #[.int .i64 n,.pointer (some ⟨c,0,none⟩),.pointer (some ⟨b,0,none⟩)] W fun e w'=>e=.returned (.tuple #[])∧Pw w s 166 c b (x++num 1 n 2) w':=by
 have hw:IntKind.u64.wrap (n:Int)=n:=by rw [zsT];omega
 have cc:W.cell? ⟨c,0,none⟩=some (fv 166):=zcr W c 0 _ 225 (0,0) h.fc;have K:Hid (Calls Tryz.prog 166 #[.pointer (some ⟨b,0,none⟩),.int .u64 n,.int .i64 2] W fun e w'=>e=.returned (.tuple #[])∧Pw w s 166 c b (x++num 1 n 2) w'):=(zaX b b n 2 x W h.wt (by omega) h.l3 (by omega)).mono fun e w' ⟨h1,h2⟩=>⟨h1,h.step h2⟩;clear h hx hn;go_enter Tryz.func169,Tryz.ntmps169
 go_wp2_with fail
 refine K.out.mono ?_;rintro e w1 ⟨rfl,h1⟩;go_wp2;go_end0;exact ⟨rfl,h1⟩
theorem zdH {w:World} {s:Su} {c b:Nat} {x:ByteArray} (n:Nat) (hn:n<65536) (W:World) (h:Pw w s 166 c b x W) (hx:x.size≤1000) :
 Calls Tryz.prog 170 #[.int .i64 n,.pointer (some ⟨c,0,none⟩),.pointer (some ⟨b,0,none⟩)] W fun e w'=>e=.returned (.tuple #[])∧Pw w s 166 c b (x++num 1 n 1) w':=by
 have hw:IntKind.u64.wrap (n:Int)=n:=by rw [zsT];omega
 have cc:W.cell? ⟨c,0,none⟩=some (fv 166):=zcr W c 0 _ 225 (0,0) h.fc;have K:Hid (Calls Tryz.prog 166 #[.pointer (some ⟨b,0,none⟩),.int .u64 n,.int .i64 1] W fun e w'=>e=.returned (.tuple #[])∧Pw w s 166 c b (x++num 1 n 1) w'):=(zaX b b n 1 x W h.wt (by omega) h.l3 (by omega)).mono fun e w' ⟨h1,h2⟩=>⟨h1,h.step h2⟩;clear h hx hn;go_enter Tryz.func170,Tryz.ntmps170
 go_wp2_with fail
 refine K.out.mono ?_;rintro e w1 ⟨rfl,h1⟩;go_wp2;go_end0;exact ⟨rfl,h1⟩
theorem zhj {w:World} {s:Su} {c b:Nat} {x:ByteArray} (n:Nat) (hn:n<65536) (W:World) (h:Pw w s 210 c b x W) (hx:x.size≤1000) :
 Calls Tryz.prog 169 #[.int .i64 n,.pointer (some ⟨c,0,none⟩),.pointer (some ⟨b,0,none⟩)] W fun e w'=>e=.returned (.tuple #[])∧Pw w s 210 c b (x++num 2 n 2) w':=by
 have hw:IntKind.u64.wrap (n:Int)=n:=by rw [zsT];omega
 have cc:W.cell? ⟨c,0,none⟩=some (fv 210):=zcr W c 0 _ 225 (0,0) h.fc;have K:Hid (Calls Tryz.prog 210 #[.pointer (some ⟨b,0,none⟩),.int .u64 n,.int .i64 2] W fun e w'=>e=.returned (.tuple #[])∧Pw w s 210 c b (x++num 2 n 2) w'):=(zeE b b n 2 x W h.wt (by omega) h.l3 (by omega)).mono fun e w' ⟨h1,h2⟩=>⟨h1,h.step h2⟩;clear h hx hn;go_enter Tryz.func169,Tryz.ntmps169
 go_wp2_with fail
 refine K.out.mono ?_;rintro e w1 ⟨rfl,h1⟩;go_wp2;go_end0;exact ⟨rfl,h1⟩
theorem zdI {w:World} {s:Su} {c b:Nat} {x:ByteArray} (n:Nat) (hn:n<65536) (W:World) (h:Pw w s 210 c b x W) (hx:x.size≤1000) :
 Calls Tryz.prog 170 #[.int .i64 n,.pointer (some ⟨c,0,none⟩),.pointer (some ⟨b,0,none⟩)] W fun e w'=>e=.returned (.tuple #[])∧Pw w s 210 c b (x++num 2 n 1) w':=by
 have hw:IntKind.u64.wrap (n:Int)=n:=by rw [zsT];omega
 have cc:W.cell? ⟨c,0,none⟩=some (fv 210):=zcr W c 0 _ 225 (0,0) h.fc;have K:Hid (Calls Tryz.prog 210 #[.pointer (some ⟨b,0,none⟩),.int .u64 n,.int .i64 1] W fun e w'=>e=.returned (.tuple #[])∧Pw w s 210 c b (x++num 2 n 1) w'):=(zeE b b n 1 x W h.wt (by omega) h.l3 (by omega)).mono fun e w' ⟨h1,h2⟩=>⟨h1,h.step h2⟩;clear h hx hn;go_enter Tryz.func170,Tryz.ntmps170
 go_wp2_with fail
 refine K.out.mono ?_;rintro e w1 ⟨rfl,h1⟩;go_wp2;go_end0;exact ⟨rfl,h1⟩
theorem zkh (a1 a2 a3 a4 a5 a6:Nat):((((((((⟨#[]⟩:ByteArray)++fxB 1 1)++num 1 a1 2)++num 1 a2 2)++num 1 a3 1)++num 1 a4 1)++num 1 a5 1)++num 1 a6 1)=zbm ⟨1,(a1:Nat),(a2:Nat),(a3:Nat),(a4:Nat),(a5:Nat),(a6:Nat)⟩:=by
 rw [zds];unfold zbm;simp only [zsK];rfl
theorem zfK (a1 a2 a3 a4 a5 a6:Nat) (w:World) (h:rgt ⟨1,(a1:Nat),(a2:Nat),(a3:Nat),(a4:Nat),(a5:Nat),(a6:Nat)⟩=true):Calls Tryz.prog 111 #[Su.val ⟨1,(a1:Nat),(a2:Nat),(a3:Nat),(a4:Nat),(a5:Nat),(a6:Nat)⟩] w fun e w'=>e=.returned (.tuple #[.string (zbm ⟨1,(a1:Nat),(a2:Nat),(a3:Nat),(a4:Nat),(a5:Nat),(a6:Nat)⟩),.bool true])∧Below w.heap.size w w':=by
 obtain ⟨W,hW⟩:∃ W,W=sbx w ⟨1,(a1:Nat),(a2:Nat),(a3:Nat),(a4:Nat),(a5:Nat),(a6:Nat)⟩:=⟨_,rfl⟩;have hc:=zcd w ⟨1,(a1:Nat),(a2:Nat),(a3:Nat),(a4:Nat),(a5:Nat),(a6:Nat)⟩;have hb:=zce w ⟨1,(a1:Nat),(a2:Nat),(a3:Nat),(a4:Nat),(a5:Nat),(a6:Nat)⟩;have hsz:(sbx w ⟨1,(a1:Nat),(a2:Nat),(a3:Nat),(a4:Nat),(a5:Nat),(a6:Nat)⟩).heap.size=w.heap.size+1:=by simp [sbx]
 rw [←hW] at hb hc hsz;have HK:=zh (fun (W:World)=>zbK ⟨1,(a1:Nat),(a2:Nat),(a3:Nat),(a4:Nat),(a5:Nat),(a6:Nat)⟩ W);rw [h] at HK;have HN:=zh (zkh a1 a2 a3 a4 a5 a6);have HC:=zh hc;have HZ:=zh hsz;have HW:=zh hW;have HB:=zh hb;have HPS:=zh (zhh h).2;obtain ⟨_,r1,r2,r3,r4,r5,r6,_⟩:=(zbi _).1 h;dsimp only at r1 r2 r3 r4 r5 r6;have HR:Hid (a1<65536∧a2<65536∧a3<65536∧a4<65536∧a5<65536∧a6<65536):=⟨by omega,by omega,by omega,by omega,by omega,by omega⟩;clear hb hW hc hsz r1 r2 r3 r4 r5 r6;unfold sbx Su.val at *;unfold Su.c at HW HK ⊢;dsimp only at HW HK ⊢;go_enter Tryz.func111,Tryz.ntmps111
 go_wp2_with fail
 rw [←HW.out];refine (HK.out _).mono ?_;rintro e w1 ⟨rfl,b1⟩;have hB1:=HB.out.trans (b1.mono HB.out.size);have hc1:w1.heap[w.heap.size]?=some (.cells (Su.c ⟨1,(a1:Nat),(a2:Nat),(a3:Nat),(a4:Nat),(a5:Nat),(a6:Nat)⟩) 65 (0,0)):=(b1.block _ (by have:=HZ.out;omega)).trans HC.out;have hlt:w.heap.size<w1.heap.size:=(zgx hc1);have HQ1:Hid (Pq w ⟨1,(a1:Nat),(a2:Nat),(a3:Nat),(a4:Nat),(a5:Nat),(a6:Nat)⟩ w1):=⟨hB1,hc1,hlt⟩;have c0:w1.cell? ⟨w.heap.size,0,none⟩=some (.int .i64 1):=zcr w1 _ 0 _ 65 (0,0) hc1;have KP:=zh (fun (W:World) (hQ:Pq w ⟨1,(a1:Nat),(a2:Nat),(a3:Nat),(a4:Nat),(a5:Nat),(a6:Nat)⟩ W)=>zln hQ);clear HC HZ HW HB b1 hc1 hlt HK h hB1
 go_upto_region 3 with fail
 go_cut [4] from 8 to 46 (fun s4 wx=>∃ c,s4=.pointer (some ⟨c,0,none⟩)∧Pq w ⟨1,(a1:Nat),(a2:Nat),(a3:Nat),(a4:Nat),(a5:Nat),(a6:Nat)⟩ wx∧wx.heap[c]?=some (.cells #[fv 166] 225 (0,0))∧w.heap.size<c)
 case first =>
  refine wp_region_noPanic ?_;refine wp_region_held_drew (S:=(fun w'=>w'.cell? ⟨w.heap.size,0,none⟩=some (.int .i64 1))) (by kernel_rfl) (by exact c0) (fun hHeld=>?_);refine ztk (v:=?v1) (i:=1) rfl ?hy1 ?rest1
  case hy1=>(intro w hSw;(try dsimp only at hSw);go_simp;first|done|(with_reducible rfl))
  try simp only [Act.put,zA,zB,zC]
  refine ztk (v:=?v2) (i:=2) rfl ?hy2 ?rest2
  case hy2=>(intro w hSw;(try dsimp only at hSw);go_simp;first|done|(with_reducible rfl))
  try simp only [Act.put,zA,zB,zC]
  have HQd:Hid (Pq w ⟨1,(a1:Nat),(a2:Nat),(a3:Nat),(a4:Nat),(a5:Nat),(a6:Nat)⟩ w1.drew):=Pq.drew HQ1.out;refine wpAnyH_ready (rs:=[0,4]) (by kernel_rfl) (by simp) ?_;refine AllReadyH.cons rfl (fun K hK=>?_) (AllReadyH.cons rfl (fun K hK=>?_) AllReadyH.nil)
  ·go_simp;go_at_call 165;(with_reducible refine (KP.out _ HQd.out).mono ?_);rintro q w2 ⟨g2,rfl,HQ2,m2,b2⟩
   try go_wp2_with fail
   refine hK.out _ _ HQ2.c0 (fun hHeld=>?_);clear hK K
   try simp only [Act.put,zA,zB,zC]
   refine wpAnyH_ready (rs:=[3,4]) (by kernel_rfl) (by simp) ?_;refine AllReadyH.cons rfl (fun K hK=>?_) (AllReadyH.cons rfl (fun K hK=>?_) AllReadyH.nil)
   ·have hl:=zcY (T:=227) 1 (fv 166) Tryz.underlying227 m2 (zd7 _ _);go_simp;refine hK.out _ _ HQ2.c0 (fun hHeld=>?_);clear hK K hl
    try simp only [Act.put,zA,zB,zC]
    refine zr1 (i:=4) rfl (fun K hK=>?_);go_simp;refine hK.out _ _ ?_ (fun hHeld=>?_)
    ·exact (HQ2.alloc _).c0
    clear hK K
    try simp only [Act.put,zA,zB,zC]
    refine zr1 (i:=5) rfl (fun K hK=>?_);go_simp;refine hK.out _ _ ?_ (fun hHeld=>?_)
    ·exact (HQ2.alloc _).c0
    clear hK K
    try simp only [Act.put,zA,zB,zC]
    refine wpAnyH_done (by kernel_rfl) ?_ _;refine NoPanic.normal ?_
    go_wp2_with fail
    go_meet;exact ⟨_,rfl,HQ2.alloc _,zsz w2 _,HQ2.lt⟩
   ·go_simp;refine hK.out _ _ ?_ (fun hHeld=>?_)
    ·exact (HQ2.alloc _).c0
    clear hK K
    try simp only [Act.put,zA,zB,zC]
    refine zr1 (i:=3) rfl (fun K hK=>?_);have m2':(w2.alloc (Obj.cells #[Value.nilFunc] 225)).heap[g2]?=some (.map (two (fv 166) (fv 210)) 2):=(zsG _ _ _ (zgx m2)).trans m2;have hl:=zcY (T:=227) 1 (fv 166) Tryz.underlying227 m2' (zd7 _ _);go_simp;refine hK.out _ _ ?_ (fun hHeld=>?_)
    ·exact (HQ2.alloc _).c0
    clear hK K hl
    try simp only [Act.put,zA,zB,zC]
    refine zr1 (i:=5) rfl (fun K hK=>?_);go_simp;refine hK.out _ _ ?_ (fun hHeld=>?_)
    ·exact (HQ2.alloc _).c0
    clear hK K
    try simp only [Act.put,zA,zB,zC]
    refine wpAnyH_done (by kernel_rfl) ?_ _;refine NoPanic.normal ?_
    go_wp2_with fail
    go_meet;exact ⟨_,rfl,HQ2.alloc _,zsz w2 _,HQ2.lt⟩
  ·go_simp;refine hK.out _ _ ?_ (fun hHeld=>?_)
   ·exact (Pq.drew (Pq.alloc HQ1.out _)).c0
   clear hK K
   try simp only [Act.put,zA,zB,zC]
   refine zr1 (i:=0) rfl (fun K hK=>?_);go_simp;go_at_call 165;(with_reducible refine (KP.out _ (Pq.drew (Pq.alloc HQ1.out _))).mono ?_);rintro q w2 ⟨g2,rfl,HQ2,m2,b2⟩
   try go_wp2_with fail
   refine hK.out _ _ HQ2.c0 (fun hHeld=>?_);clear hK K
   try simp only [Act.put,zA,zB,zC]
   refine zr1 (i:=3) rfl (fun K hK=>?_);have hl:=zcY (T:=227) 1 (fv 166) Tryz.underlying227 m2 (zd7 _ _);go_simp;refine hK.out _ _ HQ2.c0 (fun hHeld=>?_);clear hK K hl
   try simp only [Act.put,zA,zB,zC]
   have f2:w2.heap[w1.heap.size]?=some (.cells #[.nilFunc] 225 (0,0)):=(b2.block _ (by simp)).trans (zsz w1 _);have z2:w2.frozen? ⟨w1.heap.size,0,none⟩=false:=frozen_of_row w2 w1.heap.size 0 _ 225 f2;have y2:w2.cell? ⟨w1.heap.size,0,none⟩=some .nilFunc:=zcr w2 w1.heap.size 0 _ 225 (0,0) f2;refine zr1 (i:=5) rfl (fun K hK=>?_);go_simp;refine hK.out _ _ ?_ (fun hHeld=>?_)
   ·exact (HQ2.set _ HQ1.out.lt _).c0
   clear hK K
   try simp only [Act.put,zA,zB,zC]
   refine wpAnyH_done (by kernel_rfl) ?_ _;refine NoPanic.normal ?_
   go_wp2_with fail
   go_meet;exact ⟨_,rfl,HQ2.set _ HQ1.out.lt _,heap_setCell_same w2 w1.heap.size 0 _ 225 _ f2,HQ1.out.lt⟩
 case rest =>
  obtain ⟨c,rfl,Q,fc,hlc⟩:=hcut;have hcb:c<wc.heap.size:=(zgx fc)
  have PW0:Hid (Pw w ⟨1,(a1:Nat),(a2:Nat),(a3:Nat),(a4:Nat),(a5:Nat),(a6:Nat)⟩ 166 c wc.heap.size ⟨#[]⟩ (wc.alloc (.cells #[.pointer none,.slice none 0 0] 230))) :=
   ⟨Q.alloc _,(zsG _ _ _ hcb).trans fc,zcZ wc _ (zsy _),hlc,hcb,by simp⟩
  obtain ⟨x0,x1,x2,x3,x4,x5,x6⟩:=zat Q.bx;obtain ⟨z0,z1,z2,z3,z4,z5,z6⟩:=zat PW0.out.q.bx;obtain ⟨V,hV⟩:∃ V,V=wc.alloc (.cells #[.pointer none,.slice none 0 0] 230):=⟨_,rfl⟩;rw [←hV] at PW0;have HV:=zh hV;clear c0 HQ1 KP Q fc hlc hcb hV w1;generalize hb:wc.heap.size=b at *;have HBB:=zh hb;clear hb
  go_wp2_with fail
  rw [←HV.out,HBB.out];have KF:Hid (Calls Tryz.prog 166 #[.pointer (some ⟨b,0,none⟩),.int .u64 1,.int .i64 1] V fun e w'=>e=.returned (.tuple #[])∧Pw w ⟨1,(a1:Nat),(a2:Nat),(a3:Nat),(a4:Nat),(a5:Nat),(a6:Nat)⟩ 166 c b ((⟨#[]⟩:ByteArray)++fxB 1 1) w'):=(zaX b b 1 1 ⟨#[]⟩ V PW0.out.wt (by decide) PW0.out.l3 (by omega)).mono fun e w' ⟨h1,h2⟩=>⟨h1,PW0.out.step h2⟩;refine KF.out.mono ?_;rintro e y0 ⟨rfl,PW1⟩;have HP1:=zh PW1;clear KF PW0 HV PW1 x0 x1 x2 x3 x4 x5 x6 z0 z1 z2 z3 z4 z5 z6
  have hx0:Hid (((⟨#[]⟩:ByteArray)++fxB 1 1).size≤1000):=by
   obtain ⟨r1,r2,r3,r4,r5,r6⟩:=HR.out;have e0:(fxB 1 1).size=1:=zad 1 1 (by omega);show _≤_;simp only [zsH,e0];have e9:(ByteArray.mk #[]).size=0:=rfl;omega
  have KF:=zh (zhi a1 (by have:=HR.out;omega) _ HP1.out hx0.out);obtain ⟨x0,x1,x2,x3,x4,x5,x6⟩:=zat HP1.out.q.bx
  go_wp2_with fail
  refine KF.out.mono ?_;rintro e y1 ⟨rfl,PW1⟩;have HP2:=zh PW1;clear KF HP1 PW1 x0 x1 x2 x3 x4 x5 x6 hx0
  have hx1:Hid ((((⟨#[]⟩:ByteArray)++fxB 1 1)++num 1 a1 2).size≤1000):=by
   obtain ⟨r1,r2,r3,r4,r5,r6⟩:=HR.out;have e0:(fxB 1 1).size=1:=zad 1 1 (by omega);have e1:=zac 1 a1 2 (by omega) (by omega);show _≤_;simp only [zsH,e0];have e9:(ByteArray.mk #[]).size=0:=rfl;omega
  have KF:=zh (zhi a2 (by have:=HR.out;omega) _ HP2.out hx1.out);obtain ⟨x0,x1,x2,x3,x4,x5,x6⟩:=zat HP2.out.q.bx
  go_wp2_with fail
  refine KF.out.mono ?_;rintro e y2 ⟨rfl,PW1⟩;have HP3:=zh PW1;clear KF HP2 PW1 x0 x1 x2 x3 x4 x5 x6 hx1
  have hx2:Hid (((((⟨#[]⟩:ByteArray)++fxB 1 1)++num 1 a1 2)++num 1 a2 2).size≤1000):=by
   obtain ⟨r1,r2,r3,r4,r5,r6⟩:=HR.out;have e0:(fxB 1 1).size=1:=zad 1 1 (by omega);have e1:=zac 1 a1 2 (by omega) (by omega);have e2:=zac 1 a2 2 (by omega) (by omega);show _≤_;simp only [zsH,e0];have e9:(ByteArray.mk #[]).size=0:=rfl;omega
  have KF:=zh (zdH a3 (by have:=HR.out;omega) _ HP3.out hx2.out);obtain ⟨x0,x1,x2,x3,x4,x5,x6⟩:=zat HP3.out.q.bx
  go_wp2_with fail
  refine KF.out.mono ?_;rintro e y3 ⟨rfl,PW1⟩;have HP4:=zh PW1;clear KF HP3 PW1 x0 x1 x2 x3 x4 x5 x6 hx2
  have hx3:Hid ((((((⟨#[]⟩:ByteArray)++fxB 1 1)++num 1 a1 2)++num 1 a2 2)++num 1 a3 1).size≤1000):=by
   obtain ⟨r1,r2,r3,r4,r5,r6⟩:=HR.out;have e0:(fxB 1 1).size=1:=zad 1 1 (by omega);have e1:=zac 1 a1 2 (by omega) (by omega);have e2:=zac 1 a2 2 (by omega) (by omega);have e3:=zac 1 a3 1 (by omega) (by omega);show _≤_;simp only [zsH,e0];have e9:(ByteArray.mk #[]).size=0:=rfl;omega
  have KF:=zh (zdH a4 (by have:=HR.out;omega) _ HP4.out hx3.out);obtain ⟨x0,x1,x2,x3,x4,x5,x6⟩:=zat HP4.out.q.bx
  go_wp2_with fail
  refine KF.out.mono ?_;rintro e y4 ⟨rfl,PW1⟩;have HP5:=zh PW1;clear KF HP4 PW1 x0 x1 x2 x3 x4 x5 x6 hx3
  have hx4:Hid (((((((⟨#[]⟩:ByteArray)++fxB 1 1)++num 1 a1 2)++num 1 a2 2)++num 1 a3 1)++num 1 a4 1).size≤1000):=by
   obtain ⟨r1,r2,r3,r4,r5,r6⟩:=HR.out;have e0:(fxB 1 1).size=1:=zad 1 1 (by omega);have e1:=zac 1 a1 2 (by omega) (by omega);have e2:=zac 1 a2 2 (by omega) (by omega);have e3:=zac 1 a3 1 (by omega) (by omega);have e4:=zac 1 a4 1 (by omega) (by omega);show _≤_;simp only [zsH,e0];have e9:(ByteArray.mk #[]).size=0:=rfl;omega
  have KF:=zh (zdH a5 (by have:=HR.out;omega) _ HP5.out hx4.out);obtain ⟨x0,x1,x2,x3,x4,x5,x6⟩:=zat HP5.out.q.bx
  go_wp2_with fail
  refine KF.out.mono ?_;rintro e y5 ⟨rfl,PW1⟩;have HP6:=zh PW1;clear KF HP5 PW1 x0 x1 x2 x3 x4 x5 x6 hx4
  have hx5:Hid ((((((((⟨#[]⟩:ByteArray)++fxB 1 1)++num 1 a1 2)++num 1 a2 2)++num 1 a3 1)++num 1 a4 1)++num 1 a5 1).size≤1000):=by
   obtain ⟨r1,r2,r3,r4,r5,r6⟩:=HR.out;have e0:(fxB 1 1).size=1:=zad 1 1 (by omega);have e1:=zac 1 a1 2 (by omega) (by omega);have e2:=zac 1 a2 2 (by omega) (by omega);have e3:=zac 1 a3 1 (by omega) (by omega);have e4:=zac 1 a4 1 (by omega) (by omega);have e5:=zac 1 a5 1 (by omega) (by omega);show _≤_;simp only [zsH,e0];have e9:(ByteArray.mk #[]).size=0:=rfl;omega
  have KF:=zh (zdH a6 (by have:=HR.out;omega) _ HP6.out hx5.out);obtain ⟨x0,x1,x2,x3,x4,x5,x6⟩:=zat HP6.out.q.bx
  go_wp2_with fail
  refine KF.out.mono ?_;rintro e y6 ⟨rfl,PW1⟩;have HP7:=zh PW1;clear KF HP6 PW1 x0 x1 x2 x3 x4 x5 x6 hx5;have KS:=zh (wstring b b _ _ HP7.out.wt (by rw [HN.out];exact HPS.out))
  go_wp2_with fail
  refine KS.out.mono ?_;rintro e y8 ⟨rfl,b8⟩;have HF:=zh (HP7.out.q.be.trans (b8.mono (by have:=HP7.out.l1;have:=HP7.out.l2;omega)));clear KS b8 HP7;go_wp2;go_ret2;exact ⟨by rw [←HN.out];rfl,HF.out⟩
theorem zki (a1 a2 a3 a4 a5 a6:Nat):((((((((⟨#[]⟩:ByteArray)++fxB 2 1)++num 2 a1 2)++num 2 a2 2)++num 2 a3 1)++num 2 a4 1)++num 2 a5 1)++num 2 a6 1)=zbm ⟨2,(a1:Nat),(a2:Nat),(a3:Nat),(a4:Nat),(a5:Nat),(a6:Nat)⟩:=by
 rw [zds];unfold zbm;simp only [zsK];rfl
theorem zfL (a1 a2 a3 a4 a5 a6:Nat) (w:World) (h:rgt ⟨2,(a1:Nat),(a2:Nat),(a3:Nat),(a4:Nat),(a5:Nat),(a6:Nat)⟩=true):Calls Tryz.prog 111 #[Su.val ⟨2,(a1:Nat),(a2:Nat),(a3:Nat),(a4:Nat),(a5:Nat),(a6:Nat)⟩] w fun e w'=>e=.returned (.tuple #[.string (zbm ⟨2,(a1:Nat),(a2:Nat),(a3:Nat),(a4:Nat),(a5:Nat),(a6:Nat)⟩),.bool true])∧Below w.heap.size w w':=by
 obtain ⟨W,hW⟩:∃ W,W=sbx w ⟨2,(a1:Nat),(a2:Nat),(a3:Nat),(a4:Nat),(a5:Nat),(a6:Nat)⟩:=⟨_,rfl⟩;have hc:=zcd w ⟨2,(a1:Nat),(a2:Nat),(a3:Nat),(a4:Nat),(a5:Nat),(a6:Nat)⟩;have hb:=zce w ⟨2,(a1:Nat),(a2:Nat),(a3:Nat),(a4:Nat),(a5:Nat),(a6:Nat)⟩;have hsz:(sbx w ⟨2,(a1:Nat),(a2:Nat),(a3:Nat),(a4:Nat),(a5:Nat),(a6:Nat)⟩).heap.size=w.heap.size+1:=by simp [sbx]
 rw [←hW] at hb hc hsz;have HK:=zh (fun (W:World)=>zbK ⟨2,(a1:Nat),(a2:Nat),(a3:Nat),(a4:Nat),(a5:Nat),(a6:Nat)⟩ W);rw [h] at HK;have HN:=zh (zki a1 a2 a3 a4 a5 a6);have HC:=zh hc;have HZ:=zh hsz;have HW:=zh hW;have HB:=zh hb;have HPS:=zh (zhh h).2;obtain ⟨_,r1,r2,r3,r4,r5,r6,_⟩:=(zbi _).1 h;dsimp only at r1 r2 r3 r4 r5 r6;have HR:Hid (a1<65536∧a2<65536∧a3<65536∧a4<65536∧a5<65536∧a6<65536):=⟨by omega,by omega,by omega,by omega,by omega,by omega⟩;clear hb hW hc hsz r1 r2 r3 r4 r5 r6;unfold sbx Su.val at *;unfold Su.c at HW HK ⊢;dsimp only at HW HK ⊢;go_enter Tryz.func111,Tryz.ntmps111
 go_wp2_with fail
 rw [←HW.out];refine (HK.out _).mono ?_;rintro e w1 ⟨rfl,b1⟩;have hB1:=HB.out.trans (b1.mono HB.out.size);have hc1:w1.heap[w.heap.size]?=some (.cells (Su.c ⟨2,(a1:Nat),(a2:Nat),(a3:Nat),(a4:Nat),(a5:Nat),(a6:Nat)⟩) 65 (0,0)):=(b1.block _ (by have:=HZ.out;omega)).trans HC.out;have hlt:w.heap.size<w1.heap.size:=(zgx hc1);have HQ1:Hid (Pq w ⟨2,(a1:Nat),(a2:Nat),(a3:Nat),(a4:Nat),(a5:Nat),(a6:Nat)⟩ w1):=⟨hB1,hc1,hlt⟩;have c0:w1.cell? ⟨w.heap.size,0,none⟩=some (.int .i64 2):=zcr w1 _ 0 _ 65 (0,0) hc1;have KP:=zh (fun (W:World) (hQ:Pq w ⟨2,(a1:Nat),(a2:Nat),(a3:Nat),(a4:Nat),(a5:Nat),(a6:Nat)⟩ W)=>zln hQ);clear HC HZ HW HB b1 hc1 hlt HK h hB1
 go_upto_region 3 with fail
 go_cut [4] from 8 to 46 (fun s4 wx=>∃ c,s4=.pointer (some ⟨c,0,none⟩)∧Pq w ⟨2,(a1:Nat),(a2:Nat),(a3:Nat),(a4:Nat),(a5:Nat),(a6:Nat)⟩ wx∧wx.heap[c]?=some (.cells #[fv 210] 225 (0,0))∧w.heap.size<c)
 case first =>
  refine wp_region_noPanic ?_;refine wp_region_held_drew (S:=(fun w'=>w'.cell? ⟨w.heap.size,0,none⟩=some (.int .i64 2))) (by kernel_rfl) (by exact c0) (fun hHeld=>?_);refine ztk (v:=?v1) (i:=1) rfl ?hy1 ?rest1
  case hy1=>(intro w hSw;(try dsimp only at hSw);go_simp;first|done|(with_reducible rfl))
  try simp only [Act.put,zA,zB,zC]
  refine ztk (v:=?v2) (i:=2) rfl ?hy2 ?rest2
  case hy2=>(intro w hSw;(try dsimp only at hSw);go_simp;first|done|(with_reducible rfl))
  try simp only [Act.put,zA,zB,zC]
  have HQd:Hid (Pq w ⟨2,(a1:Nat),(a2:Nat),(a3:Nat),(a4:Nat),(a5:Nat),(a6:Nat)⟩ w1.drew):=Pq.drew HQ1.out;refine wpAnyH_ready (rs:=[0,4]) (by kernel_rfl) (by simp) ?_;refine AllReadyH.cons rfl (fun K hK=>?_) (AllReadyH.cons rfl (fun K hK=>?_) AllReadyH.nil)
  ·go_simp;go_at_call 165;(with_reducible refine (KP.out _ HQd.out).mono ?_);rintro q w2 ⟨g2,rfl,HQ2,m2,b2⟩
   try go_wp2_with fail
   refine hK.out _ _ HQ2.c0 (fun hHeld=>?_);clear hK K
   try simp only [Act.put,zA,zB,zC]
   refine wpAnyH_ready (rs:=[3,4]) (by kernel_rfl) (by simp) ?_;refine AllReadyH.cons rfl (fun K hK=>?_) (AllReadyH.cons rfl (fun K hK=>?_) AllReadyH.nil)
   ·have hl:=zcY (T:=227) 2 (fv 210) Tryz.underlying227 m2 (zd8 _ _);go_simp;refine hK.out _ _ HQ2.c0 (fun hHeld=>?_);clear hK K hl
    try simp only [Act.put,zA,zB,zC]
    refine zr1 (i:=4) rfl (fun K hK=>?_);go_simp;refine hK.out _ _ ?_ (fun hHeld=>?_)
    ·exact (HQ2.alloc _).c0
    clear hK K
    try simp only [Act.put,zA,zB,zC]
    refine zr1 (i:=5) rfl (fun K hK=>?_);go_simp;refine hK.out _ _ ?_ (fun hHeld=>?_)
    ·exact (HQ2.alloc _).c0
    clear hK K
    try simp only [Act.put,zA,zB,zC]
    refine wpAnyH_done (by kernel_rfl) ?_ _;refine NoPanic.normal ?_
    go_wp2_with fail
    go_meet;exact ⟨_,rfl,HQ2.alloc _,zsz w2 _,HQ2.lt⟩
   ·go_simp;refine hK.out _ _ ?_ (fun hHeld=>?_)
    ·exact (HQ2.alloc _).c0
    clear hK K
    try simp only [Act.put,zA,zB,zC]
    refine zr1 (i:=3) rfl (fun K hK=>?_);have m2':(w2.alloc (Obj.cells #[Value.nilFunc] 225)).heap[g2]?=some (.map (two (fv 166) (fv 210)) 2):=(zsG _ _ _ (zgx m2)).trans m2;have hl:=zcY (T:=227) 2 (fv 210) Tryz.underlying227 m2' (zd8 _ _);go_simp;refine hK.out _ _ ?_ (fun hHeld=>?_)
    ·exact (HQ2.alloc _).c0
    clear hK K hl
    try simp only [Act.put,zA,zB,zC]
    refine zr1 (i:=5) rfl (fun K hK=>?_);go_simp;refine hK.out _ _ ?_ (fun hHeld=>?_)
    ·exact (HQ2.alloc _).c0
    clear hK K
    try simp only [Act.put,zA,zB,zC]
    refine wpAnyH_done (by kernel_rfl) ?_ _;refine NoPanic.normal ?_
    go_wp2_with fail
    go_meet;exact ⟨_,rfl,HQ2.alloc _,zsz w2 _,HQ2.lt⟩
  ·go_simp;refine hK.out _ _ ?_ (fun hHeld=>?_)
   ·exact (Pq.drew (Pq.alloc HQ1.out _)).c0
   clear hK K
   try simp only [Act.put,zA,zB,zC]
   refine zr1 (i:=0) rfl (fun K hK=>?_);go_simp;go_at_call 165;(with_reducible refine (KP.out _ (Pq.drew (Pq.alloc HQ1.out _))).mono ?_);rintro q w2 ⟨g2,rfl,HQ2,m2,b2⟩
   try go_wp2_with fail
   refine hK.out _ _ HQ2.c0 (fun hHeld=>?_);clear hK K
   try simp only [Act.put,zA,zB,zC]
   refine zr1 (i:=3) rfl (fun K hK=>?_);have hl:=zcY (T:=227) 2 (fv 210) Tryz.underlying227 m2 (zd8 _ _);go_simp;refine hK.out _ _ HQ2.c0 (fun hHeld=>?_);clear hK K hl
   try simp only [Act.put,zA,zB,zC]
   have f2:w2.heap[w1.heap.size]?=some (.cells #[.nilFunc] 225 (0,0)):=(b2.block _ (by simp)).trans (zsz w1 _);have z2:w2.frozen? ⟨w1.heap.size,0,none⟩=false:=frozen_of_row w2 w1.heap.size 0 _ 225 f2;have y2:w2.cell? ⟨w1.heap.size,0,none⟩=some .nilFunc:=zcr w2 w1.heap.size 0 _ 225 (0,0) f2;refine zr1 (i:=5) rfl (fun K hK=>?_);go_simp;refine hK.out _ _ ?_ (fun hHeld=>?_)
   ·exact (HQ2.set _ HQ1.out.lt _).c0
   clear hK K
   try simp only [Act.put,zA,zB,zC]
   refine wpAnyH_done (by kernel_rfl) ?_ _;refine NoPanic.normal ?_
   go_wp2_with fail
   go_meet;exact ⟨_,rfl,HQ2.set _ HQ1.out.lt _,heap_setCell_same w2 w1.heap.size 0 _ 225 _ f2,HQ1.out.lt⟩
 case rest =>
  obtain ⟨c,rfl,Q,fc,hlc⟩:=hcut;have hcb:c<wc.heap.size:=(zgx fc)
  have PW0:Hid (Pw w ⟨2,(a1:Nat),(a2:Nat),(a3:Nat),(a4:Nat),(a5:Nat),(a6:Nat)⟩ 210 c wc.heap.size ⟨#[]⟩ (wc.alloc (.cells #[.pointer none,.slice none 0 0] 230))) :=
   ⟨Q.alloc _,(zsG _ _ _ hcb).trans fc,zcZ wc _ (zsy _),hlc,hcb,by simp⟩
  obtain ⟨x0,x1,x2,x3,x4,x5,x6⟩:=zat Q.bx;obtain ⟨z0,z1,z2,z3,z4,z5,z6⟩:=zat PW0.out.q.bx;obtain ⟨V,hV⟩:∃ V,V=wc.alloc (.cells #[.pointer none,.slice none 0 0] 230):=⟨_,rfl⟩;rw [←hV] at PW0;have HV:=zh hV;clear c0 HQ1 KP Q fc hlc hcb hV w1;generalize hb:wc.heap.size=b at *;have HBB:=zh hb;clear hb
  go_wp2_with fail
  rw [←HV.out,HBB.out];have KF:Hid (Calls Tryz.prog 166 #[.pointer (some ⟨b,0,none⟩),.int .u64 2,.int .i64 1] V fun e w'=>e=.returned (.tuple #[])∧Pw w ⟨2,(a1:Nat),(a2:Nat),(a3:Nat),(a4:Nat),(a5:Nat),(a6:Nat)⟩ 210 c b ((⟨#[]⟩:ByteArray)++fxB 2 1) w'):=(zaX b b 2 1 ⟨#[]⟩ V PW0.out.wt (by decide) PW0.out.l3 (by omega)).mono fun e w' ⟨h1,h2⟩=>⟨h1,PW0.out.step h2⟩;refine KF.out.mono ?_;rintro e y0 ⟨rfl,PW1⟩;have HP1:=zh PW1;clear KF PW0 HV PW1 x0 x1 x2 x3 x4 x5 x6 z0 z1 z2 z3 z4 z5 z6
  have hx0:Hid (((⟨#[]⟩:ByteArray)++fxB 2 1).size≤1000):=by
   obtain ⟨r1,r2,r3,r4,r5,r6⟩:=HR.out;have e0:(fxB 2 1).size=1:=zad 2 1 (by omega);show _≤_;simp only [zsH,e0];have e9:(ByteArray.mk #[]).size=0:=rfl;omega
  have KF:=zh (zhj a1 (by have:=HR.out;omega) _ HP1.out hx0.out);obtain ⟨x0,x1,x2,x3,x4,x5,x6⟩:=zat HP1.out.q.bx
  go_wp2_with fail
  refine KF.out.mono ?_;rintro e y1 ⟨rfl,PW1⟩;have HP2:=zh PW1;clear KF HP1 PW1 x0 x1 x2 x3 x4 x5 x6 hx0
  have hx1:Hid ((((⟨#[]⟩:ByteArray)++fxB 2 1)++num 2 a1 2).size≤1000):=by
   obtain ⟨r1,r2,r3,r4,r5,r6⟩:=HR.out;have e0:(fxB 2 1).size=1:=zad 2 1 (by omega);have e1:=zac 2 a1 2 (by omega) (by omega);show _≤_;simp only [zsH,e0];have e9:(ByteArray.mk #[]).size=0:=rfl;omega
  have KF:=zh (zhj a2 (by have:=HR.out;omega) _ HP2.out hx1.out);obtain ⟨x0,x1,x2,x3,x4,x5,x6⟩:=zat HP2.out.q.bx
  go_wp2_with fail
  refine KF.out.mono ?_;rintro e y2 ⟨rfl,PW1⟩;have HP3:=zh PW1;clear KF HP2 PW1 x0 x1 x2 x3 x4 x5 x6 hx1
  have hx2:Hid (((((⟨#[]⟩:ByteArray)++fxB 2 1)++num 2 a1 2)++num 2 a2 2).size≤1000):=by
   obtain ⟨r1,r2,r3,r4,r5,r6⟩:=HR.out;have e0:(fxB 2 1).size=1:=zad 2 1 (by omega);have e1:=zac 2 a1 2 (by omega) (by omega);have e2:=zac 2 a2 2 (by omega) (by omega);show _≤_;simp only [zsH,e0];have e9:(ByteArray.mk #[]).size=0:=rfl;omega
  have KF:=zh (zdI a3 (by have:=HR.out;omega) _ HP3.out hx2.out);obtain ⟨x0,x1,x2,x3,x4,x5,x6⟩:=zat HP3.out.q.bx
  go_wp2_with fail
  refine KF.out.mono ?_;rintro e y3 ⟨rfl,PW1⟩;have HP4:=zh PW1;clear KF HP3 PW1 x0 x1 x2 x3 x4 x5 x6 hx2
  have hx3:Hid ((((((⟨#[]⟩:ByteArray)++fxB 2 1)++num 2 a1 2)++num 2 a2 2)++num 2 a3 1).size≤1000):=by
   obtain ⟨r1,r2,r3,r4,r5,r6⟩:=HR.out;have e0:(fxB 2 1).size=1:=zad 2 1 (by omega);have e1:=zac 2 a1 2 (by omega) (by omega);have e2:=zac 2 a2 2 (by omega) (by omega);have e3:=zac 2 a3 1 (by omega) (by omega);show _≤_;simp only [zsH,e0];have e9:(ByteArray.mk #[]).size=0:=rfl;omega
  have KF:=zh (zdI a4 (by have:=HR.out;omega) _ HP4.out hx3.out);obtain ⟨x0,x1,x2,x3,x4,x5,x6⟩:=zat HP4.out.q.bx
  go_wp2_with fail
  refine KF.out.mono ?_;rintro e y4 ⟨rfl,PW1⟩;have HP5:=zh PW1;clear KF HP4 PW1 x0 x1 x2 x3 x4 x5 x6 hx3
  have hx4:Hid (((((((⟨#[]⟩:ByteArray)++fxB 2 1)++num 2 a1 2)++num 2 a2 2)++num 2 a3 1)++num 2 a4 1).size≤1000):=by
   obtain ⟨r1,r2,r3,r4,r5,r6⟩:=HR.out;have e0:(fxB 2 1).size=1:=zad 2 1 (by omega);have e1:=zac 2 a1 2 (by omega) (by omega);have e2:=zac 2 a2 2 (by omega) (by omega);have e3:=zac 2 a3 1 (by omega) (by omega);have e4:=zac 2 a4 1 (by omega) (by omega);show _≤_;simp only [zsH,e0];have e9:(ByteArray.mk #[]).size=0:=rfl;omega
  have KF:=zh (zdI a5 (by have:=HR.out;omega) _ HP5.out hx4.out);obtain ⟨x0,x1,x2,x3,x4,x5,x6⟩:=zat HP5.out.q.bx
  go_wp2_with fail
  refine KF.out.mono ?_;rintro e y5 ⟨rfl,PW1⟩;have HP6:=zh PW1;clear KF HP5 PW1 x0 x1 x2 x3 x4 x5 x6 hx4
  have hx5:Hid ((((((((⟨#[]⟩:ByteArray)++fxB 2 1)++num 2 a1 2)++num 2 a2 2)++num 2 a3 1)++num 2 a4 1)++num 2 a5 1).size≤1000):=by
   obtain ⟨r1,r2,r3,r4,r5,r6⟩:=HR.out;have e0:(fxB 2 1).size=1:=zad 2 1 (by omega);have e1:=zac 2 a1 2 (by omega) (by omega);have e2:=zac 2 a2 2 (by omega) (by omega);have e3:=zac 2 a3 1 (by omega) (by omega);have e4:=zac 2 a4 1 (by omega) (by omega);have e5:=zac 2 a5 1 (by omega) (by omega);show _≤_;simp only [zsH,e0];have e9:(ByteArray.mk #[]).size=0:=rfl;omega
  have KF:=zh (zdI a6 (by have:=HR.out;omega) _ HP6.out hx5.out);obtain ⟨x0,x1,x2,x3,x4,x5,x6⟩:=zat HP6.out.q.bx
  go_wp2_with fail
  refine KF.out.mono ?_;rintro e y6 ⟨rfl,PW1⟩;have HP7:=zh PW1;clear KF HP6 PW1 x0 x1 x2 x3 x4 x5 x6 hx5;have KS:=zh (wstring b b _ _ HP7.out.wt (by rw [HN.out];exact HPS.out))
  go_wp2_with fail
  refine KS.out.mono ?_;rintro e y8 ⟨rfl,b8⟩;have HF:=zh (HP7.out.q.be.trans (b8.mono (by have:=HP7.out.l1;have:=HP7.out.l2;omega)));clear KS b8 HP7;go_wp2;go_ret2;exact ⟨by rw [←HN.out];rfl,HF.out⟩
theorem zip (s:Su) (w:World) (h:rgt s=false):Calls Tryz.prog 111 #[s.val] w fun e w'=>e=.returned (.tuple #[.string ⟨#[]⟩,.bool false])∧Below w.heap.size w w':=by
 obtain ⟨W,hW⟩:∃ W,W=sbx w s:=⟨_,rfl⟩;have hb:=zce w s;have HK:=zh (fun (W:World)=>zbK s W);rw [h] at HK;rw [←hW] at hb;have HW:=zh hW;have HB:=zh hb;have hc:=zcd w s;rw [←hW] at hc;have HC:=zh hc;clear hb hW h hc;unfold sbx Su.val Su.c at *;go_enter Tryz.func111,Tryz.ntmps111
 go_wp2_with fail
 rw [←HW.out];refine (HK.out _).mono ?_;rintro e w1 ⟨rfl,b1⟩;have HB1:=zh (HB.out.trans (b1.mono HB.out.size));go_wp2;go_ret2;exact ⟨rfl,HB1.out⟩
theorem zcN (s:Su) (w:World):Calls Tryz.prog 111 #[s.val] w fun e w'=>e=.returned (.tuple #[.string (zid s),.bool (rgt s)])∧Below w.heap.size w w':=by
 unfold zid
 cases h:rgt s with
 | false=>exact zip s w h
 | true =>
   rw [if_pos rfl];obtain ⟨v,sn,lg,ar,hf,gl,sp⟩:=s;obtain ⟨h1,h2,h3,h4,h5,h6,h7,_⟩:=(zbi _).1 h;dsimp only at h1 h2 h3 h4 h5 h6 h7;obtain ⟨a,rfl⟩:=zsM (by omega:0≤sn);obtain ⟨b,rfl⟩:=zsM (by omega:0≤lg);obtain ⟨c,rfl⟩:=zsM (by omega:0≤ar);obtain ⟨d,rfl⟩:=zsM (by omega:0≤hf);obtain ⟨e,rfl⟩:=zsM (by omega:0≤gl);obtain ⟨f,rfl⟩:=zsM (by omega:0≤sp);rcases (by omega:v=1∨v=2) with rfl|rfl
   ·exact zfK a b c d e f w h
   ·exact zfL a b c d e f w h
end Go.Proofs.YtidndekacnmihaaGreat.J
namespace Go.Proofs.YtidndekacnmihaaGreat.J
open Go.RowKit Vi Sl
def hbx (w:World) (h:Hd):World:=w.alloc (.cells h.c 41)
theorem zlo (w:World) (h:Hd):(hbx w h).heap[w.heap.size]?=some (.cells h.c 41 (0,0)):=zsz w _
theorem zhk (w:World) (h:Hd):Below w.heap.size w (hbx w h):=zba
theorem zaw {w:World} {g:Nat} {h:Hd} (hh:w.heap[g]?=some (.cells h.c 41 (0,0))) :
 w.cell? ⟨g,0,none⟩=some (.int .u64 h.tm)∧w.cell? ⟨g,1,none⟩=some (.int .i64 h.vo)∧w.cell? ⟨g,2,none⟩=some (.int .u64 h.cm) :=
 ⟨zcr w g 0 _ 41 (0,0) hh,zcr w g 1 _ 41 (0,0) hh,zcr w g 2 _ 41 (0,0) hh⟩
structure Ph (w:World) (h:Hd) (W:World):Prop where
 be:Below w.heap.size w W
 bx:W.heap[w.heap.size]?=some (.cells h.c 41 (0,0))
 lt:w.heap.size<W.heap.size
theorem Ph.below {w W W':World} {s:Hd} (h:Ph w s W) (hb:Below W.heap.size W W'):Ph w s W' :=
 ⟨h.be.trans (hb.mono h.be.size),(hb.block _ h.lt).trans h.bx,zs8 h.lt hb.size⟩
theorem Ph.alloc {w W:World} {s:Hd} (h:Ph w s W) (o:Obj):Ph w s (W.alloc o):=h.below zba
theorem zfc {w W:World} {s:Hd} (h:Ph w s W):Calls Tryz.prog 165 #[] W fun r w'=>∃ g,r=.returned (.map (some g))∧Ph w s w'∧w'.heap[g]?=some (.map (two (fv 166) (fv 210)) 2) :=
 (zeC W).mono fun r w' ⟨h1,h2,h3,_⟩=>⟨_,h1,h.below h3,h2⟩
theorem zhl (w:World) (h:Hd):Ph w h (hbx w h):=⟨zhk w h,zlo w h,by simp [hbx]⟩
structure Pv (w:World) (s:Hd) (b:Nat) (x:ByteArray) (W:World):Prop where
 q:Ph w s W
 wt:Wt b b x W
 l2:w.heap.size<b
 l3:b≤W.heap.size
theorem Pv.step {w W W':World} {s:Hd} {b:Nat} {x y:ByteArray} (h:Pv w s b x W) (hs:Ws W b b y W'):Pv w s b y W' :=
 ⟨⟨h.q.be.trans (hs.be.mono (by have:=h.l2;omega)),(hs.be.block _ h.l2).trans h.q.bx,zs8 h.q.lt hs.sw⟩,hs.t,h.l2,hs.sz⟩
theorem zhm {w:World} {s:Hd} {b:Nat} {x:ByteArray} (n:Nat) (hn:n<18446744073709551616) (W:World) (h:Pv w s b x W) (hx:x.size≤1000) :
 Calls Tryz.prog 166 #[.pointer (some ⟨b,0,none⟩),.int .u64 n,.int .i64 8] W fun e w'=>e=.returned (.tuple #[])∧Pv w s b (x++num 1 n 8) w':=(zaX b b n 8 x W h.wt (by omega) h.l3 (by omega)).mono fun e w' ⟨h1,h2⟩=>⟨h1,h.step h2⟩
theorem zlp {w:World} {s:Hd} {b:Nat} {x:ByteArray} (n:Nat) (hn:n<18446744073709551616) (W:World) (h:Pv w s b x W) (hx:x.size≤1000) :
 Calls Tryz.prog 166 #[.pointer (some ⟨b,0,none⟩),.int .u64 n,.int .i64 1] W fun e w'=>e=.returned (.tuple #[])∧Pv w s b (x++num 1 n 1) w':=(zaX b b n 1 x W h.wt (by omega) h.l3 (by omega)).mono fun e w' ⟨h1,h2⟩=>⟨h1,h.step h2⟩
theorem zhn {w:World} {s:Hd} {b:Nat} {x:ByteArray} (n:Nat) (hn:n<18446744073709551616) (W:World) (h:Pv w s b x W) (hx:x.size≤1000) :
 Calls Tryz.prog 210 #[.pointer (some ⟨b,0,none⟩),.int .u64 n,.int .i64 8] W fun e w'=>e=.returned (.tuple #[])∧Pv w s b (x++num 2 n 8) w':=(zeE b b n 8 x W h.wt (by omega) h.l3 hn).mono fun e w' ⟨h1,h2⟩=>⟨h1,h.step h2⟩
theorem zlq {w:World} {s:Hd} {b:Nat} {x:ByteArray} (n:Nat) (hn:n<18446744073709551616) (W:World) (h:Pv w s b x W) (hx:x.size≤1000) :
 Calls Tryz.prog 210 #[.pointer (some ⟨b,0,none⟩),.int .u64 n,.int .i64 1] W fun e w'=>e=.returned (.tuple #[])∧Pv w s b (x++num 2 n 1) w':=(zeE b b n 1 x W h.wt (by omega) h.l3 hn).mono fun e w' ⟨h1,h2⟩=>⟨h1,h.step h2⟩
theorem ziq (tm vo cm:Nat):(((((⟨#[]⟩:ByteArray)++fxB 17 1)++num 1 tm 8)++num 1 vo 1)++num 1 cm 8)=hB 1 ⟨tm,(vo:Nat),cm⟩:=by
 rw [zds];unfold hB;simp only [zsK];rfl
theorem zgw (tm vo cm:Nat) (w:World) (ht:tm<18446744073709551616) (hc:cm<18446744073709551616) (h7:vo≤7):Calls Tryz.prog 109 #[.int .i64 1,Hd.val ⟨tm,(vo:Nat),cm⟩] w fun e w'=>e=.returned (.tuple #[.string (hB 1 ⟨tm,(vo:Nat),cm⟩),.bool true])∧Below w.heap.size w w':=by
 obtain ⟨W,hW⟩:∃ W,W=hbx w ⟨tm,(vo:Nat),cm⟩:=⟨_,rfl⟩;have hq:=zhl w ⟨tm,(vo:Nat),cm⟩;rw [←hW] at hq;have HQ:=zh hq;have HI:=zh (fun (W:World)=>zaK vo 0 7 W);rw [show ins (vo:Int) 0 7=true by unfold ins;rw [zsD (by omega),zsD (by omega)];rfl] at HI;have HN:=zh (ziq tm vo cm);have HW:=zh hW;have HPS:Hid (0<(hB 1 ⟨tm,(vo:Nat),cm⟩).size):=(zgv ((zdc _ _).2 ⟨by omega,by show (0:Int)≤(vo:Nat);omega,by show ((vo:Nat):Int)≤7;omega⟩) ⟨ht,hc,by show _≤((vo:Nat):Int);omega,by show ((vo:Nat):Int)≤_;omega⟩).2;have HR:Hid (tm<18446744073709551616∧cm<18446744073709551616∧vo<18446744073709551616):=⟨ht,hc,by omega⟩;have hu:IntKind.u64.wrap (vo:Int)=vo:=by rw [zsT];omega
 clear hq hW ht hc h7;unfold hbx Hd.val at *;unfold Hd.c at HW ⊢
 try dsimp only at HW ⊢
 go_enter Tryz.func109,Tryz.ntmps109
 go_wp2_with fail
 rw [←HW.out];refine (zfc HQ.out).mono ?_;rintro e w1 ⟨g,rfl,Q1,m1⟩;have HQ1:=zh Q1;have hl:=zaB (T:=227) 1 (fv 166) Tryz.underlying227 m1 (zd7 _ _);obtain ⟨x0,x1,x2⟩:=zaw Q1.bx;clear HQ HW Q1 m1
 go_wp2_with fail
 refine (HI.out _).mono ?_;rintro e w1 ⟨rfl,rfl⟩
 have PW0:Hid (Pv w ⟨tm,(vo:Nat),cm⟩ w1.heap.size ⟨#[]⟩ (w1.alloc (.cells #[.pointer none,.slice none 0 0] 230))) :=
  ⟨HQ1.out.alloc _,zcZ w1 _ (zsy _),HQ1.out.lt,by simp⟩
 obtain ⟨z0,z1,z2⟩:=zaw PW0.out.q.bx;obtain ⟨V,hV⟩:∃ V,V=w1.alloc (.cells #[.pointer none,.slice none 0 0] 230):=⟨_,rfl⟩;rw [←hV] at PW0;have HV:=zh hV;clear hV hl HI;generalize hb:w1.heap.size=b at *;have HBB:=zh hb;clear hb
 go_wp2_with fail
 rw [←HV.out,HBB.out];have KF:Hid (Calls Tryz.prog 166 #[.pointer (some ⟨b,0,none⟩),.int .u64 17,.int .i64 1] V fun e w'=>e=.returned (.tuple #[])∧Pv w ⟨tm,(vo:Nat),cm⟩ b ((⟨#[]⟩:ByteArray)++fxB 17 1) w'):=(zaX b b 17 1 ⟨#[]⟩ V PW0.out.wt (by decide) PW0.out.l3 (by omega)).mono fun e w' ⟨h1,h2⟩=>⟨h1,PW0.out.step h2⟩;refine KF.out.mono ?_;rintro e y0 ⟨rfl,PW1⟩;have HP1:=zh PW1;clear KF PW0 HV PW1 x0 x1 x2 z0 z1 z2 HQ1
 have hx0:Hid (((⟨#[]⟩:ByteArray)++fxB 17 1).size≤1000):=by
  obtain ⟨r1,r2,r3⟩:=HR.out;have e0:(fxB 17 1).size=1:=zad 17 1 (by omega);show _≤_;simp only [zsH,e0];have e9:(ByteArray.mk #[]).size=0:=rfl;omega
 have KF:=zh (zhm tm (HR.out.1) _ HP1.out hx0.out);obtain ⟨x0,x1,x2⟩:=zaw HP1.out.q.bx
 go_wp2_with fail
 refine KF.out.mono ?_;rintro e y1 ⟨rfl,PW1⟩;have HP2:=zh PW1;clear KF HP1 PW1 x0 x1 x2 hx0
 have hx1:Hid ((((⟨#[]⟩:ByteArray)++fxB 17 1)++num 1 tm 8).size≤1000):=by
  obtain ⟨r1,r2,r3⟩:=HR.out;have e0:(fxB 17 1).size=1:=zad 17 1 (by omega);have e1:=zac 1 tm 8 (by omega) (by omega);show _≤_;simp only [zsH,e0];have e9:(ByteArray.mk #[]).size=0:=rfl;omega
 have KF:=zh (zlp vo (HR.out.2.2) _ HP2.out hx1.out);obtain ⟨x0,x1,x2⟩:=zaw HP2.out.q.bx
 go_wp2_with fail
 refine KF.out.mono ?_;rintro e y2 ⟨rfl,PW1⟩;have HP3:=zh PW1;clear KF HP2 PW1 x0 x1 x2 hx1
 have hx2:Hid (((((⟨#[]⟩:ByteArray)++fxB 17 1)++num 1 tm 8)++num 1 vo 1).size≤1000):=by
  obtain ⟨r1,r2,r3⟩:=HR.out;have e0:(fxB 17 1).size=1:=zad 17 1 (by omega);have e1:=zac 1 tm 8 (by omega) (by omega);have e2:=zac 1 vo 1 (by omega) (by omega);show _≤_;simp only [zsH,e0];have e9:(ByteArray.mk #[]).size=0:=rfl;omega
 have KF:=zh (zhm cm (HR.out.2.1) _ HP3.out hx2.out);obtain ⟨x0,x1,x2⟩:=zaw HP3.out.q.bx
 go_wp2_with fail
 refine KF.out.mono ?_;rintro e y3 ⟨rfl,PW1⟩;have HP4:=zh PW1;clear KF HP3 PW1 x0 x1 x2 hx2;have KS:=zh (wstring b b _ _ HP4.out.wt (by rw [HN.out];exact HPS.out))
 go_wp2_with fail
 refine KS.out.mono ?_;rintro e y8 ⟨rfl,b8⟩;have HF:=zh (HP4.out.q.be.trans (b8.mono (by have:=HP4.out.l2;omega)));clear KS b8 HP4;go_wp2;go_ret2;exact ⟨by rw [←HN.out];rfl,HF.out⟩
theorem zho (h:Hd) (w:World) (hv:ins h.vo 0 7=false):Calls Tryz.prog 109 #[.int .i64 1,h.val] w fun e w'=>e=.returned (.tuple #[.string ⟨#[]⟩,.bool false])∧Below w.heap.size w w':=by
 obtain ⟨W,hW⟩:∃ W,W=hbx w h:=⟨_,rfl⟩;have hq:=zhl w h;rw [←hW] at hq;have HQ:=zh hq;have HI:=zh (fun (W:World)=>zaK h.vo 0 7 W);rw [hv] at HI;have HW:=zh hW;clear hq hW hv;unfold hbx Hd.val at *;unfold Hd.c at HW ⊢
 try dsimp only at HW ⊢
 go_enter Tryz.func109,Tryz.ntmps109
 go_wp2_with fail
 rw [←HW.out];refine (zfc HQ.out).mono ?_;rintro e w1 ⟨g,rfl,Q1,m1⟩;have HQ1:=zh Q1;have hl:=zaB (T:=227) 1 (fv 166) Tryz.underlying227 m1 (zd7 _ _);obtain ⟨x0,x1,x2⟩:=zaw Q1.bx;clear HQ HW Q1 m1
 go_wp2_with fail
 refine (HI.out _).mono ?_;rintro e w1 ⟨rfl,rfl⟩;go_wp2;go_ret2;exact ⟨rfl,HQ1.out.be⟩
theorem zir (tm vo cm:Nat):(((((⟨#[]⟩:ByteArray)++fxB 18 1)++num 2 tm 8)++num 2 vo 1)++num 2 cm 8)=hB 2 ⟨tm,(vo:Nat),cm⟩:=by
 rw [zds];unfold hB;simp only [zsK];rfl
theorem zgy (tm vo cm:Nat) (w:World) (ht:tm<18446744073709551616) (hc:cm<18446744073709551616) (h7:vo≤7):Calls Tryz.prog 109 #[.int .i64 2,Hd.val ⟨tm,(vo:Nat),cm⟩] w fun e w'=>e=.returned (.tuple #[.string (hB 2 ⟨tm,(vo:Nat),cm⟩),.bool true])∧Below w.heap.size w w':=by
 obtain ⟨W,hW⟩:∃ W,W=hbx w ⟨tm,(vo:Nat),cm⟩:=⟨_,rfl⟩;have hq:=zhl w ⟨tm,(vo:Nat),cm⟩;rw [←hW] at hq;have HQ:=zh hq;have HI:=zh (fun (W:World)=>zaK vo 0 7 W);rw [show ins (vo:Int) 0 7=true by unfold ins;rw [zsD (by omega),zsD (by omega)];rfl] at HI;have HN:=zh (zir tm vo cm);have HW:=zh hW;have HPS:Hid (0<(hB 2 ⟨tm,(vo:Nat),cm⟩).size):=(zgv ((zdc _ _).2 ⟨by omega,by show (0:Int)≤(vo:Nat);omega,by show ((vo:Nat):Int)≤7;omega⟩) ⟨ht,hc,by show _≤((vo:Nat):Int);omega,by show ((vo:Nat):Int)≤_;omega⟩).2;have HR:Hid (tm<18446744073709551616∧cm<18446744073709551616∧vo<18446744073709551616):=⟨ht,hc,by omega⟩;have hu:IntKind.u64.wrap (vo:Int)=vo:=by rw [zsT];omega
 clear hq hW ht hc h7;unfold hbx Hd.val at *;unfold Hd.c at HW ⊢
 try dsimp only at HW ⊢
 go_enter Tryz.func109,Tryz.ntmps109
 go_wp2_with fail
 rw [←HW.out];refine (zfc HQ.out).mono ?_;rintro e w1 ⟨g,rfl,Q1,m1⟩;have HQ1:=zh Q1;have hl:=zaB (T:=227) 2 (fv 210) Tryz.underlying227 m1 (zd8 _ _);obtain ⟨x0,x1,x2⟩:=zaw Q1.bx;clear HQ HW Q1 m1
 go_wp2_with fail
 refine (HI.out _).mono ?_;rintro e w1 ⟨rfl,rfl⟩
 have PW0:Hid (Pv w ⟨tm,(vo:Nat),cm⟩ w1.heap.size ⟨#[]⟩ (w1.alloc (.cells #[.pointer none,.slice none 0 0] 230))) :=
  ⟨HQ1.out.alloc _,zcZ w1 _ (zsy _),HQ1.out.lt,by simp⟩
 obtain ⟨z0,z1,z2⟩:=zaw PW0.out.q.bx;obtain ⟨V,hV⟩:∃ V,V=w1.alloc (.cells #[.pointer none,.slice none 0 0] 230):=⟨_,rfl⟩;rw [←hV] at PW0;have HV:=zh hV;clear hV hl HI;generalize hb:w1.heap.size=b at *;have HBB:=zh hb;clear hb
 go_wp2_with fail
 rw [←HV.out,HBB.out];have KF:Hid (Calls Tryz.prog 166 #[.pointer (some ⟨b,0,none⟩),.int .u64 18,.int .i64 1] V fun e w'=>e=.returned (.tuple #[])∧Pv w ⟨tm,(vo:Nat),cm⟩ b ((⟨#[]⟩:ByteArray)++fxB 18 1) w'):=(zaX b b 18 1 ⟨#[]⟩ V PW0.out.wt (by decide) PW0.out.l3 (by omega)).mono fun e w' ⟨h1,h2⟩=>⟨h1,PW0.out.step h2⟩;refine KF.out.mono ?_;rintro e y0 ⟨rfl,PW1⟩;have HP1:=zh PW1;clear KF PW0 HV PW1 x0 x1 x2 z0 z1 z2 HQ1
 have hx0:Hid (((⟨#[]⟩:ByteArray)++fxB 18 1).size≤1000):=by
  obtain ⟨r1,r2,r3⟩:=HR.out;have e0:(fxB 18 1).size=1:=zad 18 1 (by omega);show _≤_;simp only [zsH,e0];have e9:(ByteArray.mk #[]).size=0:=rfl;omega
 have KF:=zh (zhn tm (HR.out.1) _ HP1.out hx0.out);obtain ⟨x0,x1,x2⟩:=zaw HP1.out.q.bx
 go_wp2_with fail
 refine KF.out.mono ?_;rintro e y1 ⟨rfl,PW1⟩;have HP2:=zh PW1;clear KF HP1 PW1 x0 x1 x2 hx0
 have hx1:Hid ((((⟨#[]⟩:ByteArray)++fxB 18 1)++num 2 tm 8).size≤1000):=by
  obtain ⟨r1,r2,r3⟩:=HR.out;have e0:(fxB 18 1).size=1:=zad 18 1 (by omega);have e1:=zac 2 tm 8 (by omega) (by omega);show _≤_;simp only [zsH,e0];have e9:(ByteArray.mk #[]).size=0:=rfl;omega
 have KF:=zh (zlq vo (HR.out.2.2) _ HP2.out hx1.out);obtain ⟨x0,x1,x2⟩:=zaw HP2.out.q.bx
 go_wp2_with fail
 refine KF.out.mono ?_;rintro e y2 ⟨rfl,PW1⟩;have HP3:=zh PW1;clear KF HP2 PW1 x0 x1 x2 hx1
 have hx2:Hid (((((⟨#[]⟩:ByteArray)++fxB 18 1)++num 2 tm 8)++num 2 vo 1).size≤1000):=by
  obtain ⟨r1,r2,r3⟩:=HR.out;have e0:(fxB 18 1).size=1:=zad 18 1 (by omega);have e1:=zac 2 tm 8 (by omega) (by omega);have e2:=zac 2 vo 1 (by omega) (by omega);show _≤_;simp only [zsH,e0];have e9:(ByteArray.mk #[]).size=0:=rfl;omega
 have KF:=zh (zhn cm (HR.out.2.1) _ HP3.out hx2.out);obtain ⟨x0,x1,x2⟩:=zaw HP3.out.q.bx
 go_wp2_with fail
 refine KF.out.mono ?_;rintro e y3 ⟨rfl,PW1⟩;have HP4:=zh PW1;clear KF HP3 PW1 x0 x1 x2 hx2;have KS:=zh (wstring b b _ _ HP4.out.wt (by rw [HN.out];exact HPS.out))
 go_wp2_with fail
 refine KS.out.mono ?_;rintro e y8 ⟨rfl,b8⟩;have HF:=zh (HP4.out.q.be.trans (b8.mono (by have:=HP4.out.l2;omega)));clear KS b8 HP4;go_wp2;go_ret2;exact ⟨by rw [←HN.out];rfl,HF.out⟩
theorem zhp (h:Hd) (w:World) (hv:ins h.vo 0 7=false):Calls Tryz.prog 109 #[.int .i64 2,h.val] w fun e w'=>e=.returned (.tuple #[.string ⟨#[]⟩,.bool false])∧Below w.heap.size w w':=by
 obtain ⟨W,hW⟩:∃ W,W=hbx w h:=⟨_,rfl⟩;have hq:=zhl w h;rw [←hW] at hq;have HQ:=zh hq;have HI:=zh (fun (W:World)=>zaK h.vo 0 7 W);rw [hv] at HI;have HW:=zh hW;clear hq hW hv;unfold hbx Hd.val at *;unfold Hd.c at HW ⊢
 try dsimp only at HW ⊢
 go_enter Tryz.func109,Tryz.ntmps109
 go_wp2_with fail
 rw [←HW.out];refine (zfc HQ.out).mono ?_;rintro e w1 ⟨g,rfl,Q1,m1⟩;have HQ1:=zh Q1;have hl:=zaB (T:=227) 2 (fv 210) Tryz.underlying227 m1 (zd8 _ _);obtain ⟨x0,x1,x2⟩:=zaw Q1.bx;clear HQ HW Q1 m1
 go_wp2_with fail
 refine (HI.out _).mono ?_;rintro e w1 ⟨rfl,rfl⟩;go_wp2;go_ret2;exact ⟨rfl,HQ1.out.be⟩
theorem zero66 (w:World):(zeroValue 225).run Tryz.prog w=.ok .nilFunc w:=Tryz.zeroValue225 w
theorem zhq (v:Int) (h:Hd) (w:World) (h1:v≠1) (h2:v≠2):Calls Tryz.prog 109 #[.int .i64 v,h.val] w fun e w'=>e=.returned (.tuple #[.string ⟨#[]⟩,.bool false])∧Below w.heap.size w w':=by
 obtain ⟨W,hW⟩:∃ W,W=hbx w h:=⟨_,rfl⟩;have hq:=zhl w h;rw [←hW] at hq;have HQ:=zh hq;have HW:=zh hW;have H1:=zh h1;have H2:=zh h2;clear hq hW h1 h2;unfold hbx Hd.val at *;unfold Hd.c at HW ⊢;go_enter Tryz.func109,Tryz.ntmps109
 go_wp2_with fail
 rw [←HW.out];refine (zfc HQ.out).mono ?_;rintro e w1 ⟨g,rfl,Q1,m1⟩;have HQ1:=zh Q1;have hl:=zcb (T:=227) v Tryz.underlying227 zero66 m1 (zj7 _ _ v H1.out H2.out);clear HQ HW Q1 m1;go_wp2;go_ret2;exact ⟨rfl,HQ1.out.be⟩
theorem zdj (v:Int) (h:Hd) (w:World) (ho:h.Ok):Calls Tryz.prog 109 #[.int .i64 v,h.val] w fun e w'=>e=.returned (.tuple #[.string (hS v h),.bool (hO v h)])∧Below w.heap.size w w':=by
 unfold hS
 cases hh:hO v h with
 | false =>
   rw [if_neg (by decide)]
   by_cases h1:v=1
   ·subst h1;refine zho h w ?_;unfold hO at hh;simpa using hh
   ·by_cases h2:v=2
    ·subst h2;refine zhp h w ?_;unfold hO at hh;simpa using hh
    ·exact zhq v h w h1 h2
 | true =>
   rw [if_pos rfl];obtain ⟨tm,vo,cm⟩:=h;obtain ⟨h1,h2,h3⟩:=(zdc _ _).1 hh;dsimp only at h2 h3;obtain ⟨x,rfl⟩:=zsM h2;rcases h1 with rfl|rfl
   ·exact zgw tm x cm w ho.t ho.c (by omega)
   ·exact zgy tm x cm w ho.t ho.c (by omega)
end Go.Proofs.YtidndekacnmihaaGreat.J
