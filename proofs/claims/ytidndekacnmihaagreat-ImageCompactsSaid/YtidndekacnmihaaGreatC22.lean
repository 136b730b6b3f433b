/- Parts of a proof. -/
import Derived.Test.YtidndekacnmihaaGreatC21
set_option linter.all false
set_option maxHeartbeats 8000000
set_option maxRecDepth 100000
namespace Go.Proofs.YtidndekacnmihaaGreat
open Bool renaming false→P,true→X
open Ending renaming returned→H
open Go renaming World→A,Calls→G
open Go.RowKit renaming Below→N
open IntKind renaming i64→C,u64→M
open Obj renaming cells→L
open Option renaming none→j,some→l
open Tryz renaming prog→F
open Value renaming int→z,pointer→D,tuple→I,slice→O,string→R,bool→U
open Tryz
variable {b c g:Nat} {W W' w:A} {x y:ByteArray}
namespace J
open Go.RowKit Vi Sl
theorem zc6 {T E:TypeId} {clock i:Nat} {es:Array MapEntry} (c:Int) (v:Value) (hT:prog.underlying T=l (.map 3 E)) (hb:w.heap[g]?=l (.map es clock))
 (hf:Instr.findNow (.int C) (z C c) es.toList 0=l (l (i,v))) :
 (Instr.lookup T (.map (l g)) (z C c) P).run F w=.ok v w:=by
 have hk:prog.underlying 3=l (.int C):=underlying3;have hc:(Instr.checkKey es.isEmpty 10000 3 (z C c)).run F w=.ok () w:=MapKept.run_checkKey (k:=z C c) hk (by simp [MapKept.IsKey]) es.isEmpty 9999;simp [Instr.lookup,run_underlying hT,MapKept.run_getObj_map hb,hc,MapKept.run_findKey hk hf,Result.andThen]
structure Pq (w:A) (s:Su) (W:A):Prop where
 be:N w.heap.size w W
 bx:W.heap[w.heap.size]?=l (L s.c 65 (0,0))
 lt:w.heap.size<W.heap.size
theorem Pq.c0 {s:Su} (h:Pq w s W):W.cell? ⟨w.heap.size,0,j⟩=l (z C s.v):=(zau h.bx).1
theorem Pq.drew {s:Su} (h:Pq w s W):Pq w s W.drew:=⟨h.be.drew,h.bx,h.lt⟩
theorem Pq.below {s:Su} (h:Pq w s W) (hb:N W.heap.size W W'):Pq w s W' :=
 ⟨h.be.trans (hb.mono h.be.size),(hb.block _ h.lt).trans h.bx,zuk h.lt hb.size⟩
theorem Pq.alloc {s:Su} (h:Pq w s W) (o:Obj):Pq w s (W.alloc o):=h.below zba
theorem Pq.set {s:Su} (h:Pq w s W) (c:Nat) (hc:w.heap.size<c) (v:Value):Pq w s (W.setCell ⟨c,0,j⟩ v) :=
 ⟨h.be.setCell (p:=⟨c,0,j⟩) (by show w.heap.size≤c;omega) _,(heap_setCell_other W ⟨c,0,j⟩ w.heap.size v (by simp;omega)).trans h.bx,by simpa using h.lt⟩
theorem zlQ {s:Su} (h:Pq w s W):G F 165 #[] W fun r w'=>∃ g,r=H (.map (l g))∧Pq w s w'∧w'.heap[g]?=l (.map (two (fv 166) (fv 210)) 2)∧N W.heap.size W w' :=
 (zeK W).mono fun r w' ⟨h1,h2,h3,_⟩=>⟨_,h1,h.below h3,h2,h3⟩
theorem zc7 (w:A) (B:Nat) (hB:B≤w.heap.size):Wt B w.heap.size ⟨#[]⟩ (w.alloc (L #[D j,O j 0 0] 230)):=by
 have h:=Lib.fresh_isBuilder 230 5 w;rcases h with h|h
 ·obtain ⟨h1,v,h2,h3,h4⟩:=h;refine .inl ⟨hB,v,h2,?_,h4⟩
  obtain rfl:v=O j 0 0:=by
   have e:=ztJ w (L #[D j,O j 0 0] 230);rw [e] at h2;simp at h2;exact h2.symm
  exact zuF _ _ _ _
 ·obtain ⟨h1,v,h2,_⟩:=h;have e:=ztJ w (L #[D j,O j 0 0] 230);rw [e] at h2;simp at h2
structure Pw (w:A) (s:Su) (fn c b:Nat) (x:ByteArray) (W:A):Prop where
 q:Pq w s W
 fc:W.heap[c]?=l (L #[fv fn] 225 (0,0))
 wt:Wt b b x W
 l1:w.heap.size<c
 l2:c<b
 l3:b≤W.heap.size
theorem Pw.step {s:Su} {fn:Nat} (h:Pw w s fn c b x W) (hs:Ws W b b y W'):Pw w s fn c b y W' :=
 ⟨⟨h.q.be.trans (hs.be.mono (by have:=h.l1;have:=h.l2;omega)),(hs.be.block _ (by have:=h.l1;have:=h.l2;omega)).trans h.q.bx,zuk h.q.lt hs.sw⟩,(hs.be.block _ h.l2).trans h.fc,hs.t,h.l1,h.l2,hs.sz⟩
theorem zhz {s:Su} (n:Nat) (hn:n<65536) (W:A) (h:Pw w s 166 c b x W) (hx:x.size≤1000) :
 G F 169 #[z C n,D (l ⟨c,0,j⟩),D (l ⟨b,0,j⟩)] W fun e w'=>e=H (I #[])∧Pw w s 166 c b (x++num 1 n 2) w':=by
 have hw:M.wrap (n:Int)=n:=by rw [zt3];omega
 have cc:W.cell? ⟨c,0,j⟩=l (fv 166):=zcr W c 0 _ 225 (0,0) h.fc;have K:Hid (G F 166 #[D (l ⟨b,0,j⟩),z M n,z C 2] W fun e w'=>e=H (I #[])∧Pw w s 166 c b (x++num 1 n 2) w'):=(zaZ b b n 2 x W h.wt (by omega) h.l3 (by omega)).mono fun e w' ⟨h1,h2⟩=>⟨h1,h.step h2⟩;clear h hx hn;go_enter func169,ntmps169
 go_wp2_with fail
 refine K.out.mono ?_;rintro e w1 ⟨rfl,h1⟩;go_wp2;go_end0;exact ⟨rfl,h1⟩
theorem zdQ {s:Su} (n:Nat) (hn:n<65536) (W:A) (h:Pw w s 166 c b x W) (hx:x.size≤1000) :
 G F 170 #[z C n,D (l ⟨c,0,j⟩),D (l ⟨b,0,j⟩)] W fun e w'=>e=H (I #[])∧Pw w s 166 c b (x++num 1 n 1) w':=by
 have hw:M.wrap (n:Int)=n:=by rw [zt3];omega
 have cc:W.cell? ⟨c,0,j⟩=l (fv 166):=zcr W c 0 _ 225 (0,0) h.fc;have K:Hid (G F 166 #[D (l ⟨b,0,j⟩),z M n,z C 1] W fun e w'=>e=H (I #[])∧Pw w s 166 c b (x++num 1 n 1) w'):=(zaZ b b n 1 x W h.wt (by omega) h.l3 (by omega)).mono fun e w' ⟨h1,h2⟩=>⟨h1,h.step h2⟩;clear h hx hn;go_enter func170,ntmps170
 go_wp2_with fail
 refine K.out.mono ?_;rintro e w1 ⟨rfl,h1⟩;go_wp2;go_end0;exact ⟨rfl,h1⟩
theorem zhA {s:Su} (n:Nat) (hn:n<65536) (W:A) (h:Pw w s 210 c b x W) (hx:x.size≤1000) :
 G F 169 #[z C n,D (l ⟨c,0,j⟩),D (l ⟨b,0,j⟩)] W fun e w'=>e=H (I #[])∧Pw w s 210 c b (x++num 2 n 2) w':=by
 have hw:M.wrap (n:Int)=n:=by rw [zt3];omega
 have cc:W.cell? ⟨c,0,j⟩=l (fv 210):=zcr W c 0 _ 225 (0,0) h.fc;have K:Hid (G F 210 #[D (l ⟨b,0,j⟩),z M n,z C 2] W fun e w'=>e=H (I #[])∧Pw w s 210 c b (x++num 2 n 2) w'):=(zeM b b n 2 x W h.wt (by omega) h.l3 (by omega)).mono fun e w' ⟨h1,h2⟩=>⟨h1,h.step h2⟩;clear h hx hn;go_enter func169,ntmps169
 go_wp2_with fail
 refine K.out.mono ?_;rintro e w1 ⟨rfl,h1⟩;go_wp2;go_end0;exact ⟨rfl,h1⟩
theorem zdR {s:Su} (n:Nat) (hn:n<65536) (W:A) (h:Pw w s 210 c b x W) (hx:x.size≤1000) :
 G F 170 #[z C n,D (l ⟨c,0,j⟩),D (l ⟨b,0,j⟩)] W fun e w'=>e=H (I #[])∧Pw w s 210 c b (x++num 2 n 1) w':=by
 have hw:M.wrap (n:Int)=n:=by rw [zt3];omega
 have cc:W.cell? ⟨c,0,j⟩=l (fv 210):=zcr W c 0 _ 225 (0,0) h.fc;have K:Hid (G F 210 #[D (l ⟨b,0,j⟩),z M n,z C 1] W fun e w'=>e=H (I #[])∧Pw w s 210 c b (x++num 2 n 1) w'):=(zeM b b n 1 x W h.wt (by omega) h.l3 (by omega)).mono fun e w' ⟨h1,h2⟩=>⟨h1,h.step h2⟩;clear h hx hn;go_enter func170,ntmps170
 go_wp2_with fail
 refine K.out.mono ?_;rintro e w1 ⟨rfl,h1⟩;go_wp2;go_end0;exact ⟨rfl,h1⟩
theorem zkz (a1 a2 a3 a4 a5 a6:Nat):((((((((⟨#[]⟩:ByteArray)++fxB 1 1)++num 1 a1 2)++num 1 a2 2)++num 1 a3 1)++num 1 a4 1)++num 1 a5 1)++num 1 a6 1)=zbn ⟨1,(a1:Nat),(a2:Nat),(a3:Nat),(a4:Nat),(a5:Nat),(a6:Nat)⟩:=by
 rw [zdC];unfold zbn;simp only [ztV];rfl
theorem zfO (a1 a2 a3 a4 a5 a6:Nat) (w:A) (h:rgt ⟨1,(a1:Nat),(a2:Nat),(a3:Nat),(a4:Nat),(a5:Nat),(a6:Nat)⟩=X):G F 111 #[Su.val ⟨1,(a1:Nat),(a2:Nat),(a3:Nat),(a4:Nat),(a5:Nat),(a6:Nat)⟩] w fun e w'=>e=H (I #[R (zbn ⟨1,(a1:Nat),(a2:Nat),(a3:Nat),(a4:Nat),(a5:Nat),(a6:Nat)⟩),U X])∧N w.heap.size w w':=by
 obtain ⟨W,hW⟩:∃ W,W=sbx w ⟨1,(a1:Nat),(a2:Nat),(a3:Nat),(a4:Nat),(a5:Nat),(a6:Nat)⟩:=⟨_,rfl⟩;have hc:=zcg w ⟨1,(a1:Nat),(a2:Nat),(a3:Nat),(a4:Nat),(a5:Nat),(a6:Nat)⟩;have hb:=zch w ⟨1,(a1:Nat),(a2:Nat),(a3:Nat),(a4:Nat),(a5:Nat),(a6:Nat)⟩;have hsz:(sbx w ⟨1,(a1:Nat),(a2:Nat),(a3:Nat),(a4:Nat),(a5:Nat),(a6:Nat)⟩).heap.size=w.heap.size+1:=by simp [sbx]
 rw [←hW] at hb hc hsz;have HK:=zh (fun (W:A)=>zbR ⟨1,(a1:Nat),(a2:Nat),(a3:Nat),(a4:Nat),(a5:Nat),(a6:Nat)⟩ W);rw [h] at HK;have HN:=zh (zkz a1 a2 a3 a4 a5 a6);have HC:=zh hc;have HZ:=zh hsz;have HW:=zh hW;have HB:=zh hb;have HPS:=zh (zhy h).2;obtain ⟨_,r1,r2,r3,r4,r5,r6,_⟩:=(zbj _).1 h;dsimp only at r1 r2 r3 r4 r5 r6;have HR:Hid (a1<65536∧a2<65536∧a3<65536∧a4<65536∧a5<65536∧a6<65536):=⟨by omega,by omega,by omega,by omega,by omega,by omega⟩;clear hb hW hc hsz r1 r2 r3 r4 r5 r6;unfold sbx Su.val at *;unfold Su.c at HW HK ⊢;dsimp only at HW HK ⊢;go_enter func111,ntmps111
 go_wp2_with fail
 rw [←HW.out];refine (HK.out _).mono ?_;rintro e w1 ⟨rfl,b1⟩;have hB1:=HB.out.trans (b1.mono HB.out.size);have hc1:w1.heap[w.heap.size]?=l (L (Su.c ⟨1,(a1:Nat),(a2:Nat),(a3:Nat),(a4:Nat),(a5:Nat),(a6:Nat)⟩) 65 (0,0)):=(b1.block _ (by have:=HZ.out;omega)).trans HC.out;have hlt:w.heap.size<w1.heap.size:=(zgx hc1);have HQ1:Hid (Pq w ⟨1,(a1:Nat),(a2:Nat),(a3:Nat),(a4:Nat),(a5:Nat),(a6:Nat)⟩ w1):=⟨hB1,hc1,hlt⟩;have c0:w1.cell? ⟨w.heap.size,0,j⟩=l (z C 1):=zcr w1 _ 0 _ 65 (0,0) hc1;have KP:=zh (fun (W:A) (hQ:Pq w ⟨1,(a1:Nat),(a2:Nat),(a3:Nat),(a4:Nat),(a5:Nat),(a6:Nat)⟩ W)=>zlQ hQ);clear HC HZ HW HB b1 hc1 hlt HK h hB1
 go_upto_region 3 with fail
 go_cut [4] from 8 to 46 (fun s4 wx=>∃ c,s4=D (l ⟨c,0,j⟩)∧Pq w ⟨1,(a1:Nat),(a2:Nat),(a3:Nat),(a4:Nat),(a5:Nat),(a6:Nat)⟩ wx∧wx.heap[c]?=l (L #[fv 166] 225 (0,0))∧w.heap.size<c)
 case first =>
  refine wp_region_noPanic ?_;refine wp_region_held_drew (S:=(fun w'=>w'.cell? ⟨w.heap.size,0,j⟩=l (z C 1))) (by kernel_rfl) (by exact c0) (fun hHeld=>?_);refine ztk (v:=?v1) (i:=1) rfl ?hy1 ?rest1
  case hy1=>(intro w hSw;(try dsimp only at hSw);go_simp;first|done|(with_reducible rfl))
  try simp only [Act.put,zA,zB,zC]
  refine ztk (v:=?v2) (i:=2) rfl ?hy2 ?rest2
  case hy2=>(intro w hSw;(try dsimp only at hSw);go_simp;first|done|(with_reducible rfl))
  try simp only [Act.put,zA,zB,zC]
  have HQd:Hid (Pq w ⟨1,(a1:Nat),(a2:Nat),(a3:Nat),(a4:Nat),(a5:Nat),(a6:Nat)⟩ w1.drew):=Pq.drew HQ1.out;refine wpAnyH_ready (rs:=[0,4]) (by kernel_rfl) (by simp) ?_;refine AllReadyH.cons rfl (fun K hK=>?_) (AllReadyH.cons rfl (fun K hK=>?_) AllReadyH.nil)
  ·go_simp;go_at_call 165;(with_reducible refine (KP.out _ HQd.out).mono ?_);rintro q w2 ⟨g2,rfl,HQ2,m2,b2⟩
   try go_wp2_with fail
   refine hK.out _ _ HQ2.c0 (fun hHeld=>?_);clear hK K
   try simp only [Act.put,zA,zB,zC]
   refine wpAnyH_ready (rs:=[3,4]) (by kernel_rfl) (by simp) ?_;refine AllReadyH.cons rfl (fun K hK=>?_) (AllReadyH.cons rfl (fun K hK=>?_) AllReadyH.nil)
   ·have hl:=zc6 (T:=227) 1 (fv 166) underlying227 m2 (zed _ _);go_simp;refine hK.out _ _ HQ2.c0 (fun hHeld=>?_);clear hK K hl
    try simp only [Act.put,zA,zB,zC]
    refine zr1 (i:=4) rfl (fun K hK=>?_);go_simp;refine hK.out _ _ ?_ (fun hHeld=>?_)
    ·exact (HQ2.alloc _).c0
    clear hK K
    try simp only [Act.put,zA,zB,zC]
    refine zr1 (i:=5) rfl (fun K hK=>?_);go_simp;refine hK.out _ _ ?_ (fun hHeld=>?_)
    ·exact (HQ2.alloc _).c0
    clear hK K
    try simp only [Act.put,zA,zB,zC]
    refine wpAnyH_done (by kernel_rfl) ?_ _;refine NoPanic.normal ?_
    go_wp2_with fail
    go_meet;exact ⟨_,rfl,HQ2.alloc _,ztJ w2 _,HQ2.lt⟩
   ·go_simp;refine hK.out _ _ ?_ (fun hHeld=>?_)
    ·exact (HQ2.alloc _).c0
    clear hK K
    try simp only [Act.put,zA,zB,zC]
    refine zr1 (i:=3) rfl (fun K hK=>?_);have m2':(w2.alloc (L #[Value.nilFunc] 225)).heap[g2]?=l (.map (two (fv 166) (fv 210)) 2):=(ztQ _ _ _ (zgx m2)).trans m2;have hl:=zc6 (T:=227) 1 (fv 166) underlying227 m2' (zed _ _);go_simp;refine hK.out _ _ ?_ (fun hHeld=>?_)
    ·exact (HQ2.alloc _).c0
    clear hK K hl
    try simp only [Act.put,zA,zB,zC]
    refine zr1 (i:=5) rfl (fun K hK=>?_);go_simp;refine hK.out _ _ ?_ (fun hHeld=>?_)
    ·exact (HQ2.alloc _).c0
    clear hK K
    try simp only [Act.put,zA,zB,zC]
    refine wpAnyH_done (by kernel_rfl) ?_ _;refine NoPanic.normal ?_
    go_wp2_with fail
    go_meet;exact ⟨_,rfl,HQ2.alloc _,ztJ w2 _,HQ2.lt⟩
  ·go_simp;refine hK.out _ _ ?_ (fun hHeld=>?_)
   ·exact (Pq.drew (Pq.alloc HQ1.out _)).c0
   clear hK K
   try simp only [Act.put,zA,zB,zC]
   refine zr1 (i:=0) rfl (fun K hK=>?_);go_simp;go_at_call 165;(with_reducible refine (KP.out _ (Pq.drew (Pq.alloc HQ1.out _))).mono ?_);rintro q w2 ⟨g2,rfl,HQ2,m2,b2⟩
   try go_wp2_with fail
   refine hK.out _ _ HQ2.c0 (fun hHeld=>?_);clear hK K
   try simp only [Act.put,zA,zB,zC]
   refine zr1 (i:=3) rfl (fun K hK=>?_);have hl:=zc6 (T:=227) 1 (fv 166) underlying227 m2 (zed _ _);go_simp;refine hK.out _ _ HQ2.c0 (fun hHeld=>?_);clear hK K hl
   try simp only [Act.put,zA,zB,zC]
   have f2:w2.heap[w1.heap.size]?=l (L #[.nilFunc] 225 (0,0)):=(b2.block _ (by simp)).trans (ztJ w1 _);have z2:w2.frozen? ⟨w1.heap.size,0,j⟩=P:=frozen_of_row w2 w1.heap.size 0 _ 225 f2;have y2:w2.cell? ⟨w1.heap.size,0,j⟩=l .nilFunc:=zcr w2 w1.heap.size 0 _ 225 (0,0) f2;refine zr1 (i:=5) rfl (fun K hK=>?_);go_simp;refine hK.out _ _ ?_ (fun hHeld=>?_)
   ·exact (HQ2.set _ HQ1.out.lt _).c0
   clear hK K
   try simp only [Act.put,zA,zB,zC]
   refine wpAnyH_done (by kernel_rfl) ?_ _;refine NoPanic.normal ?_
   go_wp2_with fail
   go_meet;exact ⟨_,rfl,HQ2.set _ HQ1.out.lt _,heap_setCell_same w2 w1.heap.size 0 _ 225 _ f2,HQ1.out.lt⟩
 case rest =>
  obtain ⟨c,rfl,Q,fc,hlc⟩:=hcut;have hcb:c<wc.heap.size:=(zgx fc)
  have PW0:Hid (Pw w ⟨1,(a1:Nat),(a2:Nat),(a3:Nat),(a4:Nat),(a5:Nat),(a6:Nat)⟩ 166 c wc.heap.size ⟨#[]⟩ (wc.alloc (L #[D j,O j 0 0] 230))) :=
   ⟨Q.alloc _,(ztQ _ _ _ hcb).trans fc,zc7 wc _ (ztI _),hlc,hcb,by simp⟩
  obtain ⟨x0,x1,x2,x3,x4,x5,x6⟩:=zau Q.bx;obtain ⟨z0,z1,z2,z3,z4,z5,z6⟩:=zau PW0.out.q.bx;obtain ⟨V,hV⟩:∃ V,V=wc.alloc (L #[D j,O j 0 0] 230):=⟨_,rfl⟩;rw [←hV] at PW0;have HV:=zh hV;clear c0 HQ1 KP Q fc hlc hcb hV w1;generalize hb:wc.heap.size=b at *;have HBB:=zh hb;clear hb
  go_wp2_with fail
  rw [←HV.out,HBB.out];have KF:Hid (G F 166 #[D (l ⟨b,0,j⟩),z M 1,z C 1] V fun e w'=>e=H (I #[])∧Pw w ⟨1,(a1:Nat),(a2:Nat),(a3:Nat),(a4:Nat),(a5:Nat),(a6:Nat)⟩ 166 c b ((⟨#[]⟩:ByteArray)++fxB 1 1) w'):=(zaZ b b 1 1 ⟨#[]⟩ V PW0.out.wt (by decide) PW0.out.l3 (by omega)).mono fun e w' ⟨h1,h2⟩=>⟨h1,PW0.out.step h2⟩;refine KF.out.mono ?_;rintro e y0 ⟨rfl,PW1⟩;have HP1:=zh PW1;clear KF PW0 HV PW1 x0 x1 x2 x3 x4 x5 x6 z0 z1 z2 z3 z4 z5 z6
  have hx0:Hid (((⟨#[]⟩:ByteArray)++fxB 1 1).size≤1000):=by
   obtain ⟨r1,r2,r3,r4,r5,r6⟩:=HR.out;have e0:(fxB 1 1).size=1:=zac 1 1 (by omega);show _≤_;simp only [ztS,e0];have e9:(ByteArray.mk #[]).size=0:=rfl;omega
  have KF:=zh (zhz a1 (by have:=HR.out;omega) _ HP1.out hx0.out);obtain ⟨x0,x1,x2,x3,x4,x5,x6⟩:=zau HP1.out.q.bx
  go_wp2_with fail
  refine KF.out.mono ?_;rintro e y1 ⟨rfl,PW1⟩;have HP2:=zh PW1;clear KF HP1 PW1 x0 x1 x2 x3 x4 x5 x6 hx0
  have hx1:Hid ((((⟨#[]⟩:ByteArray)++fxB 1 1)++num 1 a1 2).size≤1000):=by
   obtain ⟨r1,r2,r3,r4,r5,r6⟩:=HR.out;have e0:(fxB 1 1).size=1:=zac 1 1 (by omega);have e1:=zad 1 a1 2 (by omega) (by omega);show _≤_;simp only [ztS,e0];have e9:(ByteArray.mk #[]).size=0:=rfl;omega
  have KF:=zh (zhz a2 (by have:=HR.out;omega) _ HP2.out hx1.out);obtain ⟨x0,x1,x2,x3,x4,x5,x6⟩:=zau HP2.out.q.bx
  go_wp2_with fail
  refine KF.out.mono ?_;rintro e y2 ⟨rfl,PW1⟩;have HP3:=zh PW1;clear KF HP2 PW1 x0 x1 x2 x3 x4 x5 x6 hx1
  have hx2:Hid (((((⟨#[]⟩:ByteArray)++fxB 1 1)++num 1 a1 2)++num 1 a2 2).size≤1000):=by
   obtain ⟨r1,r2,r3,r4,r5,r6⟩:=HR.out;have e0:(fxB 1 1).size=1:=zac 1 1 (by omega);have e1:=zad 1 a1 2 (by omega) (by omega);have e2:=zad 1 a2 2 (by omega) (by omega);show _≤_;simp only [ztS,e0];have e9:(ByteArray.mk #[]).size=0:=rfl;omega
  have KF:=zh (zdQ a3 (by have:=HR.out;omega) _ HP3.out hx2.out);obtain ⟨x0,x1,x2,x3,x4,x5,x6⟩:=zau HP3.out.q.bx
  go_wp2_with fail
  refine KF.out.mono ?_;rintro e y3 ⟨rfl,PW1⟩;have HP4:=zh PW1;clear KF HP3 PW1 x0 x1 x2 x3 x4 x5 x6 hx2
  have hx3:Hid ((((((⟨#[]⟩:ByteArray)++fxB 1 1)++num 1 a1 2)++num 1 a2 2)++num 1 a3 1).size≤1000):=by
   obtain ⟨r1,r2,r3,r4,r5,r6⟩:=HR.out;have e0:(fxB 1 1).size=1:=zac 1 1 (by omega);have e1:=zad 1 a1 2 (by omega) (by omega);have e2:=zad 1 a2 2 (by omega) (by omega);have e3:=zad 1 a3 1 (by omega) (by omega);show _≤_;simp only [ztS,e0];have e9:(ByteArray.mk #[]).size=0:=rfl;omega
  have KF:=zh (zdQ a4 (by have:=HR.out;omega) _ HP4.out hx3.out);obtain ⟨x0,x1,x2,x3,x4,x5,x6⟩:=zau HP4.out.q.bx
  go_wp2_with fail
  refine KF.out.mono ?_;rintro e y4 ⟨rfl,PW1⟩;have HP5:=zh PW1;clear KF HP4 PW1 x0 x1 x2 x3 x4 x5 x6 hx3
  have hx4:Hid (((((((⟨#[]⟩:ByteArray)++fxB 1 1)++num 1 a1 2)++num 1 a2 2)++num 1 a3 1)++num 1 a4 1).size≤1000):=by
   obtain ⟨r1,r2,r3,r4,r5,r6⟩:=HR.out;have e0:(fxB 1 1).size=1:=zac 1 1 (by omega);have e1:=zad 1 a1 2 (by omega) (by omega);have e2:=zad 1 a2 2 (by omega) (by omega);have e3:=zad 1 a3 1 (by omega) (by omega);have e4:=zad 1 a4 1 (by omega) (by omega);show _≤_;simp only [ztS,e0];have e9:(ByteArray.mk #[]).size=0:=rfl;omega
  have KF:=zh (zdQ a5 (by have:=HR.out;omega) _ HP5.out hx4.out);obtain ⟨x0,x1,x2,x3,x4,x5,x6⟩:=zau HP5.out.q.bx
  go_wp2_with fail
  refine KF.out.mono ?_;rintro e y5 ⟨rfl,PW1⟩;have HP6:=zh PW1;clear KF HP5 PW1 x0 x1 x2 x3 x4 x5 x6 hx4
  have hx5:Hid ((((((((⟨#[]⟩:ByteArray)++fxB 1 1)++num 1 a1 2)++num 1 a2 2)++num 1 a3 1)++num 1 a4 1)++num 1 a5 1).size≤1000):=by
   obtain ⟨r1,r2,r3,r4,r5,r6⟩:=HR.out;have e0:(fxB 1 1).size=1:=zac 1 1 (by omega);have e1:=zad 1 a1 2 (by omega) (by omega);have e2:=zad 1 a2 2 (by omega) (by omega);have e3:=zad 1 a3 1 (by omega) (by omega);have e4:=zad 1 a4 1 (by omega) (by omega);have e5:=zad 1 a5 1 (by omega) (by omega);show _≤_;simp only [ztS,e0];have e9:(ByteArray.mk #[]).size=0:=rfl;omega
  have KF:=zh (zdQ a6 (by have:=HR.out;omega) _ HP6.out hx5.out);obtain ⟨x0,x1,x2,x3,x4,x5,x6⟩:=zau HP6.out.q.bx
  go_wp2_with fail
  refine KF.out.mono ?_;rintro e y6 ⟨rfl,PW1⟩;have HP7:=zh PW1;clear KF HP6 PW1 x0 x1 x2 x3 x4 x5 x6 hx5;have KS:=zh (wstring b b _ _ HP7.out.wt (by rw [HN.out];exact HPS.out))
  go_wp2_with fail
  refine KS.out.mono ?_;rintro e y8 ⟨rfl,b8⟩;have HF:=zh (HP7.out.q.be.trans (b8.mono (by have:=HP7.out.l1;have:=HP7.out.l2;omega)));clear KS b8 HP7;go_wp2;go_ret2;exact ⟨by rw [←HN.out];rfl,HF.out⟩
theorem zkA (a1 a2 a3 a4 a5 a6:Nat):((((((((⟨#[]⟩:ByteArray)++fxB 2 1)++num 2 a1 2)++num 2 a2 2)++num 2 a3 1)++num 2 a4 1)++num 2 a5 1)++num 2 a6 1)=zbn ⟨2,(a1:Nat),(a2:Nat),(a3:Nat),(a4:Nat),(a5:Nat),(a6:Nat)⟩:=by
 rw [zdC];unfold zbn;simp only [ztV];rfl
theorem zfP (a1 a2 a3 a4 a5 a6:Nat) (w:A) (h:rgt ⟨2,(a1:Nat),(a2:Nat),(a3:Nat),(a4:Nat),(a5:Nat),(a6:Nat)⟩=X):G F 111 #[Su.val ⟨2,(a1:Nat),(a2:Nat),(a3:Nat),(a4:Nat),(a5:Nat),(a6:Nat)⟩] w fun e w'=>e=H (I #[R (zbn ⟨2,(a1:Nat),(a2:Nat),(a3:Nat),(a4:Nat),(a5:Nat),(a6:Nat)⟩),U X])∧N w.heap.size w w':=by
 obtain ⟨W,hW⟩:∃ W,W=sbx w ⟨2,(a1:Nat),(a2:Nat),(a3:Nat),(a4:Nat),(a5:Nat),(a6:Nat)⟩:=⟨_,rfl⟩;have hc:=zcg w ⟨2,(a1:Nat),(a2:Nat),(a3:Nat),(a4:Nat),(a5:Nat),(a6:Nat)⟩;have hb:=zch w ⟨2,(a1:Nat),(a2:Nat),(a3:Nat),(a4:Nat),(a5:Nat),(a6:Nat)⟩;have hsz:(sbx w ⟨2,(a1:Nat),(a2:Nat),(a3:Nat),(a4:Nat),(a5:Nat),(a6:Nat)⟩).heap.size=w.heap.size+1:=by simp [sbx]
 rw [←hW] at hb hc hsz;have HK:=zh (fun (W:A)=>zbR ⟨2,(a1:Nat),(a2:Nat),(a3:Nat),(a4:Nat),(a5:Nat),(a6:Nat)⟩ W);rw [h] at HK;have HN:=zh (zkA a1 a2 a3 a4 a5 a6);have HC:=zh hc;have HZ:=zh hsz;have HW:=zh hW;have HB:=zh hb;have HPS:=zh (zhy h).2;obtain ⟨_,r1,r2,r3,r4,r5,r6,_⟩:=(zbj _).1 h;dsimp only at r1 r2 r3 r4 r5 r6;have HR:Hid (a1<65536∧a2<65536∧a3<65536∧a4<65536∧a5<65536∧a6<65536):=⟨by omega,by omega,by omega,by omega,by omega,by omega⟩;clear hb hW hc hsz r1 r2 r3 r4 r5 r6;unfold sbx Su.val at *;unfold Su.c at HW HK ⊢;dsimp only at HW HK ⊢;go_enter func111,ntmps111
 go_wp2_with fail
 rw [←HW.out];refine (HK.out _).mono ?_;rintro e w1 ⟨rfl,b1⟩;have hB1:=HB.out.trans (b1.mono HB.out.size);have hc1:w1.heap[w.heap.size]?=l (L (Su.c ⟨2,(a1:Nat),(a2:Nat),(a3:Nat),(a4:Nat),(a5:Nat),(a6:Nat)⟩) 65 (0,0)):=(b1.block _ (by have:=HZ.out;omega)).trans HC.out;have hlt:w.heap.size<w1.heap.size:=(zgx hc1);have HQ1:Hid (Pq w ⟨2,(a1:Nat),(a2:Nat),(a3:Nat),(a4:Nat),(a5:Nat),(a6:Nat)⟩ w1):=⟨hB1,hc1,hlt⟩;have c0:w1.cell? ⟨w.heap.size,0,j⟩=l (z C 2):=zcr w1 _ 0 _ 65 (0,0) hc1;have KP:=zh (fun (W:A) (hQ:Pq w ⟨2,(a1:Nat),(a2:Nat),(a3:Nat),(a4:Nat),(a5:Nat),(a6:Nat)⟩ W)=>zlQ hQ);clear HC HZ HW HB b1 hc1 hlt HK h hB1
 go_upto_region 3 with fail
 go_cut [4] from 8 to 46 (fun s4 wx=>∃ c,s4=D (l ⟨c,0,j⟩)∧Pq w ⟨2,(a1:Nat),(a2:Nat),(a3:Nat),(a4:Nat),(a5:Nat),(a6:Nat)⟩ wx∧wx.heap[c]?=l (L #[fv 210] 225 (0,0))∧w.heap.size<c)
 case first =>
  refine wp_region_noPanic ?_;refine wp_region_held_drew (S:=(fun w'=>w'.cell? ⟨w.heap.size,0,j⟩=l (z C 2))) (by kernel_rfl) (by exact c0) (fun hHeld=>?_);refine ztk (v:=?v1) (i:=1) rfl ?hy1 ?rest1
  case hy1=>(intro w hSw;(try dsimp only at hSw);go_simp;first|done|(with_reducible rfl))
  try simp only [Act.put,zA,zB,zC]
  refine ztk (v:=?v2) (i:=2) rfl ?hy2 ?rest2
  case hy2=>(intro w hSw;(try dsimp only at hSw);go_simp;first|done|(with_reducible rfl))
  try simp only [Act.put,zA,zB,zC]
  have HQd:Hid (Pq w ⟨2,(a1:Nat),(a2:Nat),(a3:Nat),(a4:Nat),(a5:Nat),(a6:Nat)⟩ w1.drew):=Pq.drew HQ1.out;refine wpAnyH_ready (rs:=[0,4]) (by kernel_rfl) (by simp) ?_;refine AllReadyH.cons rfl (fun K hK=>?_) (AllReadyH.cons rfl (fun K hK=>?_) AllReadyH.nil)
  ·go_simp;go_at_call 165;(with_reducible refine (KP.out _ HQd.out).mono ?_);rintro q w2 ⟨g2,rfl,HQ2,m2,b2⟩
   try go_wp2_with fail
   refine hK.out _ _ HQ2.c0 (fun hHeld=>?_);clear hK K
   try simp only [Act.put,zA,zB,zC]
   refine wpAnyH_ready (rs:=[3,4]) (by kernel_rfl) (by simp) ?_;refine AllReadyH.cons rfl (fun K hK=>?_) (AllReadyH.cons rfl (fun K hK=>?_) AllReadyH.nil)
   ·have hl:=zc6 (T:=227) 2 (fv 210) underlying227 m2 (zee _ _);go_simp;refine hK.out _ _ HQ2.c0 (fun hHeld=>?_);clear hK K hl
    try simp only [Act.put,zA,zB,zC]
    refine zr1 (i:=4) rfl (fun K hK=>?_);go_simp;refine hK.out _ _ ?_ (fun hHeld=>?_)
    ·exact (HQ2.alloc _).c0
    clear hK K
    try simp only [Act.put,zA,zB,zC]
    refine zr1 (i:=5) rfl (fun K hK=>?_);go_simp;refine hK.out _ _ ?_ (fun hHeld=>?_)
    ·exact (HQ2.alloc _).c0
    clear hK K
    try simp only [Act.put,zA,zB,zC]
    refine wpAnyH_done (by kernel_rfl) ?_ _;refine NoPanic.normal ?_
    go_wp2_with fail
    go_meet;exact ⟨_,rfl,HQ2.alloc _,ztJ w2 _,HQ2.lt⟩
   ·go_simp;refine hK.out _ _ ?_ (fun hHeld=>?_)
    ·exact (HQ2.alloc _).c0
    clear hK K
    try simp only [Act.put,zA,zB,zC]
    refine zr1 (i:=3) rfl (fun K hK=>?_);have m2':(w2.alloc (L #[Value.nilFunc] 225)).heap[g2]?=l (.map (two (fv 166) (fv 210)) 2):=(ztQ _ _ _ (zgx m2)).trans m2;have hl:=zc6 (T:=227) 2 (fv 210) underlying227 m2' (zee _ _);go_simp;refine hK.out _ _ ?_ (fun hHeld=>?_)
    ·exact (HQ2.alloc _).c0
    clear hK K hl
    try simp only [Act.put,zA,zB,zC]
    refine zr1 (i:=5) rfl (fun K hK=>?_);go_simp;refine hK.out _ _ ?_ (fun hHeld=>?_)
    ·exact (HQ2.alloc _).c0
    clear hK K
    try simp only [Act.put,zA,zB,zC]
    refine wpAnyH_done (by kernel_rfl) ?_ _;refine NoPanic.normal ?_
    go_wp2_with fail
    go_meet;exact ⟨_,rfl,HQ2.alloc _,ztJ w2 _,HQ2.lt⟩
  ·go_simp;refine hK.out _ _ ?_ (fun hHeld=>?_)
   ·exact (Pq.drew (Pq.alloc HQ1.out _)).c0
   clear hK K
   try simp only [Act.put,zA,zB,zC]
   refine zr1 (i:=0) rfl (fun K hK=>?_);go_simp;go_at_call 165;(with_reducible refine (KP.out _ (Pq.drew (Pq.alloc HQ1.out _))).mono ?_);rintro q w2 ⟨g2,rfl,HQ2,m2,b2⟩
   try go_wp2_with fail
   refine hK.out _ _ HQ2.c0 (fun hHeld=>?_);clear hK K
   try simp only [Act.put,zA,zB,zC]
   refine zr1 (i:=3) rfl (fun K hK=>?_);have hl:=zc6 (T:=227) 2 (fv 210) underlying227 m2 (zee _ _);go_simp;refine hK.out _ _ HQ2.c0 (fun hHeld=>?_);clear hK K hl
   try simp only [Act.put,zA,zB,zC]
   have f2:w2.heap[w1.heap.size]?=l (L #[.nilFunc] 225 (0,0)):=(b2.block _ (by simp)).trans (ztJ w1 _);have z2:w2.frozen? ⟨w1.heap.size,0,j⟩=P:=frozen_of_row w2 w1.heap.size 0 _ 225 f2;have y2:w2.cell? ⟨w1.heap.size,0,j⟩=l .nilFunc:=zcr w2 w1.heap.size 0 _ 225 (0,0) f2;refine zr1 (i:=5) rfl (fun K hK=>?_);go_simp;refine hK.out _ _ ?_ (fun hHeld=>?_)
   ·exact (HQ2.set _ HQ1.out.lt _).c0
   clear hK K
   try simp only [Act.put,zA,zB,zC]
   refine wpAnyH_done (by kernel_rfl) ?_ _;refine NoPanic.normal ?_
   go_wp2_with fail
   go_meet;exact ⟨_,rfl,HQ2.set _ HQ1.out.lt _,heap_setCell_same w2 w1.heap.size 0 _ 225 _ f2,HQ1.out.lt⟩
 case rest =>
  obtain ⟨c,rfl,Q,fc,hlc⟩:=hcut;have hcb:c<wc.heap.size:=(zgx fc)
  have PW0:Hid (Pw w ⟨2,(a1:Nat),(a2:Nat),(a3:Nat),(a4:Nat),(a5:Nat),(a6:Nat)⟩ 210 c wc.heap.size ⟨#[]⟩ (wc.alloc (L #[D j,O j 0 0] 230))) :=
   ⟨Q.alloc _,(ztQ _ _ _ hcb).trans fc,zc7 wc _ (ztI _),hlc,hcb,by simp⟩
  obtain ⟨x0,x1,x2,x3,x4,x5,x6⟩:=zau Q.bx;obtain ⟨z0,z1,z2,z3,z4,z5,z6⟩:=zau PW0.out.q.bx;obtain ⟨V,hV⟩:∃ V,V=wc.alloc (L #[D j,O j 0 0] 230):=⟨_,rfl⟩;rw [←hV] at PW0;have HV:=zh hV;clear c0 HQ1 KP Q fc hlc hcb hV w1;generalize hb:wc.heap.size=b at *;have HBB:=zh hb;clear hb
  go_wp2_with fail
  rw [←HV.out,HBB.out];have KF:Hid (G F 166 #[D (l ⟨b,0,j⟩),z M 2,z C 1] V fun e w'=>e=H (I #[])∧Pw w ⟨2,(a1:Nat),(a2:Nat),(a3:Nat),(a4:Nat),(a5:Nat),(a6:Nat)⟩ 210 c b ((⟨#[]⟩:ByteArray)++fxB 2 1) w'):=(zaZ b b 2 1 ⟨#[]⟩ V PW0.out.wt (by decide) PW0.out.l3 (by omega)).mono fun e w' ⟨h1,h2⟩=>⟨h1,PW0.out.step h2⟩;refine KF.out.mono ?_;rintro e y0 ⟨rfl,PW1⟩;have HP1:=zh PW1;clear KF PW0 HV PW1 x0 x1 x2 x3 x4 x5 x6 z0 z1 z2 z3 z4 z5 z6
  have hx0:Hid (((⟨#[]⟩:ByteArray)++fxB 2 1).size≤1000):=by
   obtain ⟨r1,r2,r3,r4,r5,r6⟩:=HR.out;have e0:(fxB 2 1).size=1:=zac 2 1 (by omega);show _≤_;simp only [ztS,e0];have e9:(ByteArray.mk #[]).size=0:=rfl;omega
  have KF:=zh (zhA a1 (by have:=HR.out;omega) _ HP1.out hx0.out);obtain ⟨x0,x1,x2,x3,x4,x5,x6⟩:=zau HP1.out.q.bx
  go_wp2_with fail
  refine KF.out.mono ?_;rintro e y1 ⟨rfl,PW1⟩;have HP2:=zh PW1;clear KF HP1 PW1 x0 x1 x2 x3 x4 x5 x6 hx0
  have hx1:Hid ((((⟨#[]⟩:ByteArray)++fxB 2 1)++num 2 a1 2).size≤1000):=by
   obtain ⟨r1,r2,r3,r4,r5,r6⟩:=HR.out;have e0:(fxB 2 1).size=1:=zac 2 1 (by omega);have e1:=zad 2 a1 2 (by omega) (by omega);show _≤_;simp only [ztS,e0];have e9:(ByteArray.mk #[]).size=0:=rfl;omega
  have KF:=zh (zhA a2 (by have:=HR.out;omega) _ HP2.out hx1.out);obtain ⟨x0,x1,x2,x3,x4,x5,x6⟩:=zau HP2.out.q.bx
  go_wp2_with fail
  refine KF.out.mono ?_;rintro e y2 ⟨rfl,PW1⟩;have HP3:=zh PW1;clear KF HP2 PW1 x0 x1 x2 x3 x4 x5 x6 hx1
  have hx2:Hid (((((⟨#[]⟩:ByteArray)++fxB 2 1)++num 2 a1 2)++num 2 a2 2).size≤1000):=by
   obtain ⟨r1,r2,r3,r4,r5,r6⟩:=HR.out;have e0:(fxB 2 1).size=1:=zac 2 1 (by omega);have e1:=zad 2 a1 2 (by omega) (by omega);have e2:=zad 2 a2 2 (by omega) (by omega);show _≤_;simp only [ztS,e0];have e9:(ByteArray.mk #[]).size=0:=rfl;omega
  have KF:=zh (zdR a3 (by have:=HR.out;omega) _ HP3.out hx2.out);obtain ⟨x0,x1,x2,x3,x4,x5,x6⟩:=zau HP3.out.q.bx
  go_wp2_with fail
  refine KF.out.mono ?_;rintro e y3 ⟨rfl,PW1⟩;have HP4:=zh PW1;clear KF HP3 PW1 x0 x1 x2 x3 x4 x5 x6 hx2
  have hx3:Hid ((((((⟨#[]⟩:ByteArray)++fxB 2 1)++num 2 a1 2)++num 2 a2 2)++num 2 a3 1).size≤1000):=by
   obtain ⟨r1,r2,r3,r4,r5,r6⟩:=HR.out;have e0:(fxB 2 1).size=1:=zac 2 1 (by omega);have e1:=zad 2 a1 2 (by omega) (by omega);have e2:=zad 2 a2 2 (by omega) (by omega);have e3:=zad 2 a3 1 (by omega) (by omega);show _≤_;simp only [ztS,e0];have e9:(ByteArray.mk #[]).size=0:=rfl;omega
  have KF:=zh (zdR a4 (by have:=HR.out;omega) _ HP4.out hx3.out);obtain ⟨x0,x1,x2,x3,x4,x5,x6⟩:=zau HP4.out.q.bx
  go_wp2_with fail
  refine KF.out.mono ?_;rintro e y4 ⟨rfl,PW1⟩;have HP5:=zh PW1;clear KF HP4 PW1 x0 x1 x2 x3 x4 x5 x6 hx3
  have hx4:Hid (((((((⟨#[]⟩:ByteArray)++fxB 2 1)++num 2 a1 2)++num 2 a2 2)++num 2 a3 1)++num 2 a4 1).size≤1000):=by
   obtain ⟨r1,r2,r3,r4,r5,r6⟩:=HR.out;have e0:(fxB 2 1).size=1:=zac 2 1 (by omega);have e1:=zad 2 a1 2 (by omega) (by omega);have e2:=zad 2 a2 2 (by omega) (by omega);have e3:=zad 2 a3 1 (by omega) (by omega);have e4:=zad 2 a4 1 (by omega) (by omega);show _≤_;simp only [ztS,e0];have e9:(ByteArray.mk #[]).size=0:=rfl;omega
  have KF:=zh (zdR a5 (by have:=HR.out;omega) _ HP5.out hx4.out);obtain ⟨x0,x1,x2,x3,x4,x5,x6⟩:=zau HP5.out.q.bx
  go_wp2_with fail
  refine KF.out.mono ?_;rintro e y5 ⟨rfl,PW1⟩;have HP6:=zh PW1;clear KF HP5 PW1 x0 x1 x2 x3 x4 x5 x6 hx4
  have hx5:Hid ((((((((⟨#[]⟩:ByteArray)++fxB 2 1)++num 2 a1 2)++num 2 a2 2)++num 2 a3 1)++num 2 a4 1)++num 2 a5 1).size≤1000):=by
   obtain ⟨r1,r2,r3,r4,r5,r6⟩:=HR.out;have e0:(fxB 2 1).size=1:=zac 2 1 (by omega);have e1:=zad 2 a1 2 (by omega) (by omega);have e2:=zad 2 a2 2 (by omega) (by omega);have e3:=zad 2 a3 1 (by omega) (by omega);have e4:=zad 2 a4 1 (by omega) (by omega);have e5:=zad 2 a5 1 (by omega) (by omega);show _≤_;simp only [ztS,e0];have e9:(ByteArray.mk #[]).size=0:=rfl;omega
  have KF:=zh (zdR a6 (by have:=HR.out;omega) _ HP6.out hx5.out);obtain ⟨x0,x1,x2,x3,x4,x5,x6⟩:=zau HP6.out.q.bx
  go_wp2_with fail
  refine KF.out.mono ?_;rintro e y6 ⟨rfl,PW1⟩;have HP7:=zh PW1;clear KF HP6 PW1 x0 x1 x2 x3 x4 x5 x6 hx5;have KS:=zh (wstring b b _ _ HP7.out.wt (by rw [HN.out];exact HPS.out))
  go_wp2_with fail
  refine KS.out.mono ?_;rintro e y8 ⟨rfl,b8⟩;have HF:=zh (HP7.out.q.be.trans (b8.mono (by have:=HP7.out.l1;have:=HP7.out.l2;omega)));clear KS b8 HP7;go_wp2;go_ret2;exact ⟨by rw [←HN.out];rfl,HF.out⟩
theorem ziE (s:Su) (w:A) (h:rgt s=P):G F 111 #[s.val] w fun e w'=>e=H (I #[R ⟨#[]⟩,U P])∧N w.heap.size w w':=by
 obtain ⟨W,hW⟩:∃ W,W=sbx w s:=⟨_,rfl⟩;have hb:=zch w s;have HK:=zh (fun (W:A)=>zbR s W);rw [h] at HK;rw [←hW] at hb;have HW:=zh hW;have HB:=zh hb;have hc:=zcg w s;rw [←hW] at hc;have HC:=zh hc;clear hb hW h hc;unfold sbx Su.val Su.c at *;go_enter func111,ntmps111
 go_wp2_with fail
 rw [←HW.out];refine (HK.out _).mono ?_;rintro e w1 ⟨rfl,b1⟩;have HB1:=zh (HB.out.trans (b1.mono HB.out.size));go_wp2;go_ret2;exact ⟨rfl,HB1.out⟩
theorem zcS (s:Su) (w:A):G F 111 #[s.val] w fun e w'=>e=H (I #[R (zis s),U (rgt s)])∧N w.heap.size w w':=by
 unfold zis
 cases h:rgt s with
 | false=>exact ziE s w h
 | true =>
   rw [if_pos rfl];obtain ⟨v,sn,lg,ar,hf,gl,sp⟩:=s;obtain ⟨h1,h2,h3,h4,h5,h6,h7,_⟩:=(zbj _).1 h;dsimp only at h1 h2 h3 h4 h5 h6 h7;obtain ⟨a,rfl⟩:=ztW (by omega:0≤sn);obtain ⟨b,rfl⟩:=ztW (by omega:0≤lg);obtain ⟨c,rfl⟩:=ztW (by omega:0≤ar);obtain ⟨d,rfl⟩:=ztW (by omega:0≤hf);obtain ⟨e,rfl⟩:=ztW (by omega:0≤gl);obtain ⟨f,rfl⟩:=ztW (by omega:0≤sp);rcases (by omega:v=1∨v=2) with rfl|rfl
   ·exact zfO a b c d e f w h
   ·exact zfP a b c d e f w h
def hbx (w:A) (h:Hd):A:=w.alloc (L h.c 41)
theorem zlR (w:A) (h:Hd):(hbx w h).heap[w.heap.size]?=l (L h.c 41 (0,0)):=ztJ w _
theorem zhB (w:A) (h:Hd):N w.heap.size w (hbx w h):=zba
theorem zax {h:Hd} (hh:w.heap[g]?=l (L h.c 41 (0,0))) :
 w.cell? ⟨g,0,j⟩=l (z M h.tm)∧w.cell? ⟨g,1,j⟩=l (z C h.vo)∧w.cell? ⟨g,2,j⟩=l (z M h.cm) :=
 ⟨zcr w g 0 _ 41 (0,0) hh,zcr w g 1 _ 41 (0,0) hh,zcr w g 2 _ 41 (0,0) hh⟩
structure Ph (w:A) (h:Hd) (W:A):Prop where
 be:N w.heap.size w W
 bx:W.heap[w.heap.size]?=l (L h.c 41 (0,0))
 lt:w.heap.size<W.heap.size
theorem Ph.below {s:Hd} (h:Ph w s W) (hb:N W.heap.size W W'):Ph w s W' :=
 ⟨h.be.trans (hb.mono h.be.size),(hb.block _ h.lt).trans h.bx,zuk h.lt hb.size⟩
theorem Ph.alloc {s:Hd} (h:Ph w s W) (o:Obj):Ph w s (W.alloc o):=h.below zba
theorem zfi {s:Hd} (h:Ph w s W):G F 165 #[] W fun r w'=>∃ g,r=H (.map (l g))∧Ph w s w'∧w'.heap[g]?=l (.map (two (fv 166) (fv 210)) 2) :=
 (zeK W).mono fun r w' ⟨h1,h2,h3,_⟩=>⟨_,h1,h.below h3,h2⟩
theorem zhC (w:A) (h:Hd):Ph w h (hbx w h):=⟨zhB w h,zlR w h,by simp [hbx]⟩
structure Pv (w:A) (s:Hd) (b:Nat) (x:ByteArray) (W:A):Prop where
 q:Ph w s W
 wt:Wt b b x W
 l2:w.heap.size<b
 l3:b≤W.heap.size
theorem Pv.step {s:Hd} (h:Pv w s b x W) (hs:Ws W b b y W'):Pv w s b y W' :=
 ⟨⟨h.q.be.trans (hs.be.mono (by have:=h.l2;omega)),(hs.be.block _ h.l2).trans h.q.bx,zuk h.q.lt hs.sw⟩,hs.t,h.l2,hs.sz⟩
theorem zhD {s:Hd} (n:Nat) (hn:n<18446744073709551616) (W:A) (h:Pv w s b x W) (hx:x.size≤1000) :
 G F 166 #[D (l ⟨b,0,j⟩),z M n,z C 8] W fun e w'=>e=H (I #[])∧Pv w s b (x++num 1 n 8) w':=(zaZ b b n 8 x W h.wt (by omega) h.l3 (by omega)).mono fun e w' ⟨h1,h2⟩=>⟨h1,h.step h2⟩
theorem zlS {s:Hd} (n:Nat) (hn:n<18446744073709551616) (W:A) (h:Pv w s b x W) (hx:x.size≤1000) :
 G F 166 #[D (l ⟨b,0,j⟩),z M n,z C 1] W fun e w'=>e=H (I #[])∧Pv w s b (x++num 1 n 1) w':=(zaZ b b n 1 x W h.wt (by omega) h.l3 (by omega)).mono fun e w' ⟨h1,h2⟩=>⟨h1,h.step h2⟩
theorem zhE {s:Hd} (n:Nat) (hn:n<18446744073709551616) (W:A) (h:Pv w s b x W) (hx:x.size≤1000) :
 G F 210 #[D (l ⟨b,0,j⟩),z M n,z C 8] W fun e w'=>e=H (I #[])∧Pv w s b (x++num 2 n 8) w':=(zeM b b n 8 x W h.wt (by omega) h.l3 hn).mono fun e w' ⟨h1,h2⟩=>⟨h1,h.step h2⟩
theorem zlT {s:Hd} (n:Nat) (hn:n<18446744073709551616) (W:A) (h:Pv w s b x W) (hx:x.size≤1000) :
 G F 210 #[D (l ⟨b,0,j⟩),z M n,z C 1] W fun e w'=>e=H (I #[])∧Pv w s b (x++num 2 n 1) w':=(zeM b b n 1 x W h.wt (by omega) h.l3 hn).mono fun e w' ⟨h1,h2⟩=>⟨h1,h.step h2⟩
theorem ziF (tm vo cm:Nat):(((((⟨#[]⟩:ByteArray)++fxB 17 1)++num 1 tm 8)++num 1 vo 1)++num 1 cm 8)=hB 1 ⟨tm,(vo:Nat),cm⟩:=by
 rw [zdC];unfold hB;simp only [ztV];rfl
theorem zgI (tm vo cm:Nat) (w:A) (ht:tm<18446744073709551616) (hc:cm<18446744073709551616) (h7:vo≤7):G F 109 #[z C 1,Hd.val ⟨tm,(vo:Nat),cm⟩] w fun e w'=>e=H (I #[R (hB 1 ⟨tm,(vo:Nat),cm⟩),U X])∧N w.heap.size w w':=by
 obtain ⟨W,hW⟩:∃ W,W=hbx w ⟨tm,(vo:Nat),cm⟩:=⟨_,rfl⟩;have hq:=zhC w ⟨tm,(vo:Nat),cm⟩;rw [←hW] at hq;have HQ:=zh hq;have HI:=zh (fun (W:A)=>zaL vo 0 7 W);rw [show ins (vo:Int) 0 7=X by unfold ins;rw [ztN (by omega),ztN (by omega)];rfl] at HI;have HN:=zh (ziF tm vo cm);have HW:=zh hW;have HPS:Hid (0<(hB 1 ⟨tm,(vo:Nat),cm⟩).size):=(zgH ((zdm _ _).2 ⟨by omega,by show (0:Int)≤(vo:Nat);omega,by show ((vo:Nat):Int)≤7;omega⟩) ⟨ht,hc,by show _≤((vo:Nat):Int);omega,by show ((vo:Nat):Int)≤_;omega⟩).2;have HR:Hid (tm<18446744073709551616∧cm<18446744073709551616∧vo<18446744073709551616):=⟨ht,hc,by omega⟩;have hu:M.wrap (vo:Int)=vo:=by rw [zt3];omega
 clear hq hW ht hc h7;unfold hbx Hd.val at *;unfold Hd.c at HW ⊢
 try dsimp only at HW ⊢
 go_enter func109,ntmps109
 go_wp2_with fail
 rw [←HW.out];refine (zfi HQ.out).mono ?_;rintro e w1 ⟨g,rfl,Q1,m1⟩;have HQ1:=zh Q1;have hl:=zaD (T:=227) 1 (fv 166) underlying227 m1 (zed _ _);obtain ⟨x0,x1,x2⟩:=zax Q1.bx;clear HQ HW Q1 m1
 go_wp2_with fail
 refine (HI.out _).mono ?_;rintro e w1 ⟨rfl,rfl⟩
 have PW0:Hid (Pv w ⟨tm,(vo:Nat),cm⟩ w1.heap.size ⟨#[]⟩ (w1.alloc (L #[D j,O j 0 0] 230))) :=
  ⟨HQ1.out.alloc _,zc7 w1 _ (ztI _),HQ1.out.lt,by simp⟩
 obtain ⟨z0,z1,z2⟩:=zax PW0.out.q.bx;obtain ⟨V,hV⟩:∃ V,V=w1.alloc (L #[D j,O j 0 0] 230):=⟨_,rfl⟩;rw [←hV] at PW0;have HV:=zh hV;clear hV hl HI;generalize hb:w1.heap.size=b at *;have HBB:=zh hb;clear hb
 go_wp2_with fail
 rw [←HV.out,HBB.out];have KF:Hid (G F 166 #[D (l ⟨b,0,j⟩),z M 17,z C 1] V fun e w'=>e=H (I #[])∧Pv w ⟨tm,(vo:Nat),cm⟩ b ((⟨#[]⟩:ByteArray)++fxB 17 1) w'):=(zaZ b b 17 1 ⟨#[]⟩ V PW0.out.wt (by decide) PW0.out.l3 (by omega)).mono fun e w' ⟨h1,h2⟩=>⟨h1,PW0.out.step h2⟩;refine KF.out.mono ?_;rintro e y0 ⟨rfl,PW1⟩;have HP1:=zh PW1;clear KF PW0 HV PW1 x0 x1 x2 z0 z1 z2 HQ1
 have hx0:Hid (((⟨#[]⟩:ByteArray)++fxB 17 1).size≤1000):=by
  obtain ⟨r1,r2,r3⟩:=HR.out;have e0:(fxB 17 1).size=1:=zac 17 1 (by omega);show _≤_;simp only [ztS,e0];have e9:(ByteArray.mk #[]).size=0:=rfl;omega
 have KF:=zh (zhD tm (HR.out.1) _ HP1.out hx0.out);obtain ⟨x0,x1,x2⟩:=zax HP1.out.q.bx
 go_wp2_with fail
 refine KF.out.mono ?_;rintro e y1 ⟨rfl,PW1⟩;have HP2:=zh PW1;clear KF HP1 PW1 x0 x1 x2 hx0
 have hx1:Hid ((((⟨#[]⟩:ByteArray)++fxB 17 1)++num 1 tm 8).size≤1000):=by
  obtain ⟨r1,r2,r3⟩:=HR.out;have e0:(fxB 17 1).size=1:=zac 17 1 (by omega);have e1:=zad 1 tm 8 (by omega) (by omega);show _≤_;simp only [ztS,e0];have e9:(ByteArray.mk #[]).size=0:=rfl;omega
 have KF:=zh (zlS vo (HR.out.2.2) _ HP2.out hx1.out);obtain ⟨x0,x1,x2⟩:=zax HP2.out.q.bx
 go_wp2_with fail
 refine KF.out.mono ?_;rintro e y2 ⟨rfl,PW1⟩;have HP3:=zh PW1;clear KF HP2 PW1 x0 x1 x2 hx1
 have hx2:Hid (((((⟨#[]⟩:ByteArray)++fxB 17 1)++num 1 tm 8)++num 1 vo 1).size≤1000):=by
  obtain ⟨r1,r2,r3⟩:=HR.out;have e0:(fxB 17 1).size=1:=zac 17 1 (by omega);have e1:=zad 1 tm 8 (by omega) (by omega);have e2:=zad 1 vo 1 (by omega) (by omega);show _≤_;simp only [ztS,e0];have e9:(ByteArray.mk #[]).size=0:=rfl;omega
 have KF:=zh (zhD cm (HR.out.2.1) _ HP3.out hx2.out);obtain ⟨x0,x1,x2⟩:=zax HP3.out.q.bx
 go_wp2_with fail
 refine KF.out.mono ?_;rintro e y3 ⟨rfl,PW1⟩;have HP4:=zh PW1;clear KF HP3 PW1 x0 x1 x2 hx2;have KS:=zh (wstring b b _ _ HP4.out.wt (by rw [HN.out];exact HPS.out))
 go_wp2_with fail
 refine KS.out.mono ?_;rintro e y8 ⟨rfl,b8⟩;have HF:=zh (HP4.out.q.be.trans (b8.mono (by have:=HP4.out.l2;omega)));clear KS b8 HP4;go_wp2;go_ret2;exact ⟨by rw [←HN.out];rfl,HF.out⟩
theorem zhF (h:Hd) (w:A) (hv:ins h.vo 0 7=P):G F 109 #[z C 1,h.val] w fun e w'=>e=H (I #[R ⟨#[]⟩,U P])∧N w.heap.size w w':=by
 obtain ⟨W,hW⟩:∃ W,W=hbx w h:=⟨_,rfl⟩;have hq:=zhC w h;rw [←hW] at hq;have HQ:=zh hq;have HI:=zh (fun (W:A)=>zaL h.vo 0 7 W);rw [hv] at HI;have HW:=zh hW;clear hq hW hv;unfold hbx Hd.val at *;unfold Hd.c at HW ⊢
 try dsimp only at HW ⊢
 go_enter func109,ntmps109
 go_wp2_with fail
 rw [←HW.out];refine (zfi HQ.out).mono ?_;rintro e w1 ⟨g,rfl,Q1,m1⟩;have HQ1:=zh Q1;have hl:=zaD (T:=227) 1 (fv 166) underlying227 m1 (zed _ _);obtain ⟨x0,x1,x2⟩:=zax Q1.bx;clear HQ HW Q1 m1
 go_wp2_with fail
 refine (HI.out _).mono ?_;rintro e w1 ⟨rfl,rfl⟩;go_wp2;go_ret2;exact ⟨rfl,HQ1.out.be⟩
theorem ziG (tm vo cm:Nat):(((((⟨#[]⟩:ByteArray)++fxB 18 1)++num 2 tm 8)++num 2 vo 1)++num 2 cm 8)=hB 2 ⟨tm,(vo:Nat),cm⟩:=by
 rw [zdC];unfold hB;simp only [ztV];rfl
theorem zgJ (tm vo cm:Nat) (w:A) (ht:tm<18446744073709551616) (hc:cm<18446744073709551616) (h7:vo≤7):G F 109 #[z C 2,Hd.val ⟨tm,(vo:Nat),cm⟩] w fun e w'=>e=H (I #[R (hB 2 ⟨tm,(vo:Nat),cm⟩),U X])∧N w.heap.size w w':=by
 obtain ⟨W,hW⟩:∃ W,W=hbx w ⟨tm,(vo:Nat),cm⟩:=⟨_,rfl⟩;have hq:=zhC w ⟨tm,(vo:Nat),cm⟩;rw [←hW] at hq;have HQ:=zh hq;have HI:=zh (fun (W:A)=>zaL vo 0 7 W);rw [show ins (vo:Int) 0 7=X by unfold ins;rw [ztN (by omega),ztN (by omega)];rfl] at HI;have HN:=zh (ziG tm vo cm);have HW:=zh hW;have HPS:Hid (0<(hB 2 ⟨tm,(vo:Nat),cm⟩).size):=(zgH ((zdm _ _).2 ⟨by omega,by show (0:Int)≤(vo:Nat);omega,by show ((vo:Nat):Int)≤7;omega⟩) ⟨ht,hc,by show _≤((vo:Nat):Int);omega,by show ((vo:Nat):Int)≤_;omega⟩).2;have HR:Hid (tm<18446744073709551616∧cm<18446744073709551616∧vo<18446744073709551616):=⟨ht,hc,by omega⟩;have hu:M.wrap (vo:Int)=vo:=by rw [zt3];omega
 clear hq hW ht hc h7;unfold hbx Hd.val at *;unfold Hd.c at HW ⊢
 try dsimp only at HW ⊢
 go_enter func109,ntmps109
 go_wp2_with fail
 rw [←HW.out];refine (zfi HQ.out).mono ?_;rintro e w1 ⟨g,rfl,Q1,m1⟩;have HQ1:=zh Q1;have hl:=zaD (T:=227) 2 (fv 210) underlying227 m1 (zee _ _);obtain ⟨x0,x1,x2⟩:=zax Q1.bx;clear HQ HW Q1 m1
 go_wp2_with fail
 refine (HI.out _).mono ?_;rintro e w1 ⟨rfl,rfl⟩
 have PW0:Hid (Pv w ⟨tm,(vo:Nat),cm⟩ w1.heap.size ⟨#[]⟩ (w1.alloc (L #[D j,O j 0 0] 230))) :=
  ⟨HQ1.out.alloc _,zc7 w1 _ (ztI _),HQ1.out.lt,by simp⟩
 obtain ⟨z0,z1,z2⟩:=zax PW0.out.q.bx;obtain ⟨V,hV⟩:∃ V,V=w1.alloc (L #[D j,O j 0 0] 230):=⟨_,rfl⟩;rw [←hV] at PW0;have HV:=zh hV;clear hV hl HI;generalize hb:w1.heap.size=b at *;have HBB:=zh hb;clear hb
 go_wp2_with fail
 rw [←HV.out,HBB.out];have KF:Hid (G F 166 #[D (l ⟨b,0,j⟩),z M 18,z C 1] V fun e w'=>e=H (I #[])∧Pv w ⟨tm,(vo:Nat),cm⟩ b ((⟨#[]⟩:ByteArray)++fxB 18 1) w'):=(zaZ b b 18 1 ⟨#[]⟩ V PW0.out.wt (by decide) PW0.out.l3 (by omega)).mono fun e w' ⟨h1,h2⟩=>⟨h1,PW0.out.step h2⟩;refine KF.out.mono ?_;rintro e y0 ⟨rfl,PW1⟩;have HP1:=zh PW1;clear KF PW0 HV PW1 x0 x1 x2 z0 z1 z2 HQ1
 have hx0:Hid (((⟨#[]⟩:ByteArray)++fxB 18 1).size≤1000):=by
  obtain ⟨r1,r2,r3⟩:=HR.out;have e0:(fxB 18 1).size=1:=zac 18 1 (by omega);show _≤_;simp only [ztS,e0];have e9:(ByteArray.mk #[]).size=0:=rfl;omega
 have KF:=zh (zhE tm (HR.out.1) _ HP1.out hx0.out);obtain ⟨x0,x1,x2⟩:=zax HP1.out.q.bx
 go_wp2_with fail
 refine KF.out.mono ?_;rintro e y1 ⟨rfl,PW1⟩;have HP2:=zh PW1;clear KF HP1 PW1 x0 x1 x2 hx0
 have hx1:Hid ((((⟨#[]⟩:ByteArray)++fxB 18 1)++num 2 tm 8).size≤1000):=by
  obtain ⟨r1,r2,r3⟩:=HR.out;have e0:(fxB 18 1).size=1:=zac 18 1 (by omega);have e1:=zad 2 tm 8 (by omega) (by omega);show _≤_;simp only [ztS,e0];have e9:(ByteArray.mk #[]).size=0:=rfl;omega
 have KF:=zh (zlT vo (HR.out.2.2) _ HP2.out hx1.out);obtain ⟨x0,x1,x2⟩:=zax HP2.out.q.bx
 go_wp2_with fail
 refine KF.out.mono ?_;rintro e y2 ⟨rfl,PW1⟩;have HP3:=zh PW1;clear KF HP2 PW1 x0 x1 x2 hx1
 have hx2:Hid (((((⟨#[]⟩:ByteArray)++fxB 18 1)++num 2 tm 8)++num 2 vo 1).size≤1000):=by
  obtain ⟨r1,r2,r3⟩:=HR.out;have e0:(fxB 18 1).size=1:=zac 18 1 (by omega);have e1:=zad 2 tm 8 (by omega) (by omega);have e2:=zad 2 vo 1 (by omega) (by omega);show _≤_;simp only [ztS,e0];have e9:(ByteArray.mk #[]).size=0:=rfl;omega
 have KF:=zh (zhE cm (HR.out.2.1) _ HP3.out hx2.out);obtain ⟨x0,x1,x2⟩:=zax HP3.out.q.bx
 go_wp2_with fail
 refine KF.out.mono ?_;rintro e y3 ⟨rfl,PW1⟩;have HP4:=zh PW1;clear KF HP3 PW1 x0 x1 x2 hx2;have KS:=zh (wstring b b _ _ HP4.out.wt (by rw [HN.out];exact HPS.out))
 go_wp2_with fail
 refine KS.out.mono ?_;rintro e y8 ⟨rfl,b8⟩;have HF:=zh (HP4.out.q.be.trans (b8.mono (by have:=HP4.out.l2;omega)));clear KS b8 HP4;go_wp2;go_ret2;exact ⟨by rw [←HN.out];rfl,HF.out⟩
theorem zhG (h:Hd) (w:A) (hv:ins h.vo 0 7=P):G F 109 #[z C 2,h.val] w fun e w'=>e=H (I #[R ⟨#[]⟩,U P])∧N w.heap.size w w':=by
 obtain ⟨W,hW⟩:∃ W,W=hbx w h:=⟨_,rfl⟩;have hq:=zhC w h;rw [←hW] at hq;have HQ:=zh hq;have HI:=zh (fun (W:A)=>zaL h.vo 0 7 W);rw [hv] at HI;have HW:=zh hW;clear hq hW hv;unfold hbx Hd.val at *;unfold Hd.c at HW ⊢
 try dsimp only at HW ⊢
 go_enter func109,ntmps109
 go_wp2_with fail
 rw [←HW.out];refine (zfi HQ.out).mono ?_;rintro e w1 ⟨g,rfl,Q1,m1⟩;have HQ1:=zh Q1;have hl:=zaD (T:=227) 2 (fv 210) underlying227 m1 (zee _ _);obtain ⟨x0,x1,x2⟩:=zax Q1.bx;clear HQ HW Q1 m1
 go_wp2_with fail
 refine (HI.out _).mono ?_;rintro e w1 ⟨rfl,rfl⟩;go_wp2;go_ret2;exact ⟨rfl,HQ1.out.be⟩
theorem zero66 (w:A):(zeroValue 225).run F w=.ok .nilFunc w:=zeroValue225 w
theorem zhH (v:Int) (h:Hd) (w:A) (h1:v≠1) (h2:v≠2):G F 109 #[z C v,h.val] w fun e w'=>e=H (I #[R ⟨#[]⟩,U P])∧N w.heap.size w w':=by
 obtain ⟨W,hW⟩:∃ W,W=hbx w h:=⟨_,rfl⟩;have hq:=zhC w h;rw [←hW] at hq;have HQ:=zh hq;have HW:=zh hW;have H1:=zh h1;have H2:=zh h2;clear hq hW h1 h2;unfold hbx Hd.val at *;unfold Hd.c at HW ⊢;go_enter func109,ntmps109
 go_wp2_with fail
 rw [←HW.out];refine (zfi HQ.out).mono ?_;rintro e w1 ⟨g,rfl,Q1,m1⟩;have HQ1:=zh Q1;have hl:=zce (T:=227) v underlying227 zero66 m1 (zkq _ _ v H1.out H2.out);clear HQ HW Q1 m1;go_wp2;go_ret2;exact ⟨rfl,HQ1.out.be⟩
theorem zdt (v:Int) (h:Hd) (w:A) (ho:h.Ok):G F 109 #[z C v,h.val] w fun e w'=>e=H (I #[R (hS v h),U (hO v h)])∧N w.heap.size w w':=by
 unfold hS
 cases hh:hO v h with
 | false =>
   rw [if_neg (by decide)]
   by_cases h1:v=1
   ·subst h1;refine zhF h w ?_;unfold hO at hh;simpa using hh
   ·by_cases h2:v=2
    ·subst h2;refine zhG h w ?_;unfold hO at hh;simpa using hh
    ·exact zhH v h w h1 h2
 | true =>
   rw [if_pos rfl];obtain ⟨tm,vo,cm⟩:=h;obtain ⟨h1,h2,h3⟩:=(zdm _ _).1 hh;dsimp only at h2 h3;obtain ⟨x,rfl⟩:=ztW h2;rcases h1 with rfl|rfl
   ·exact zgI tm x cm w ho.t ho.c (by omega)
   ·exact zgJ tm x cm w ho.t ho.c (by omega)
end J
end Go.Proofs.YtidndekacnmihaaGreat
