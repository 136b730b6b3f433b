/- Parts of a proof. -/
import Derived.Test.YtidndekacnmihaaGreatC19
set_option linter.all false
set_option maxHeartbeats 8000000
set_option maxRecDepth 100000
namespace Go.Proofs.YtidndekacnmihaaGreat
open Bool renaming true→H,false→I
open Ending renaming returned→V
open Go renaming World→M,Calls→O
open Go.RowKit renaming Below→J,intOf→qi
open Go.RowKit.Below renaming refl→qe
open IntKind renaming i64→y,u64→qd
open List renaming replicate→qg
open Obj renaming cells→B
open Option renaming some→t,none→C
open Tryz renaming prog→Q
open Value renaming int→f,string→qc,bool→qf,slice→qh
open Tryz
variable {w:M} {b:Nat} {v:Int}
open Go.RowKit
theorem mcl {e:En} {o:Bool} (h:w.heap[b]?=t (B (mdc e o) 76 (0,0))):w.cell? ⟨b,0,C⟩=t (f qd e.term)∧w.cell? ⟨b,1,C⟩=t (f qd e.index)∧w.cell? ⟨b,2,C⟩=t (f y e.kind)∧w.cell? ⟨b,3,C⟩=t (f qd e.client)∧w.cell? ⟨b,4,C⟩=t (f qd e.seq)∧w.cell? ⟨b,5,C⟩=t (f qd e.block)∧w.cell? ⟨b,6,C⟩=t (f qd e.many)∧w.cell? ⟨b,7,C⟩=t (f y e.node)∧w.cell? ⟨b,8,C⟩=t (f y e.level)∧w.cell? ⟨b,9,C⟩=t (qc e.data)∧w.cell? ⟨b,10,C⟩=t (qc e.old)∧w.cell? ⟨b,11,C⟩=t (qf o) :=
 ⟨zcr w b 0 _ 76 (0,0) h,zcr w b 1 _ 76 (0,0) h,zcr w b 2 _ 76 (0,0) h,zcr w b 3 _ 76 (0,0) h,zcr w b 4 _ 76 (0,0) h,zcr w b 5 _ 76 (0,0) h,zcr w b 6 _ 76 (0,0) h,zcr w b 7 _ 76 (0,0) h,zcr w b 8 _ 76 (0,0) h,zcr w b 9 _ 76 (0,0) h,zcr w b 10 _ 76 (0,0) h,zcr w b 11 _ 76 (0,0) h⟩
def lg1 (lev:Int) (E:En):En:=if lev<lvl E.kind then ⟨E.term,0,1,E.client,E.seq,E.block,0,0,0,E.data,⟨#[]⟩⟩ else E
def lgE (lev:Int) (ix:Nat) (E:En):En:={ lg1 lev E with index:=(ix:Int) }
def lgk (lev:Int) (base:Nat) (L:List (En×Bool)) (k:Nat):List En:=(List.range k).map fun i=>lgE lev (base+i+1) (mk (L[i]?.getD (ezz,I)).1)
theorem zkS (lev:Int) (base:Nat) (L:List (En×Bool)) (k:Nat):(lgk lev base L k).length=k:=by unfold lgk;simp
theorem zpF (lev:Int) (base:Nat) (L:List (En×Bool)) (k:Nat) (p:En×Bool) (h:L[k]?=t p):lgk lev base L (k+1)=lgk lev base L k++[lgE lev (base+k+1) (mk p.1)]:=by
 unfold lgk;rw [List.range_succ,List.map_append];simp [h]
theorem zg9 (lev:Int) (base:Nat) (L:List (En×Bool)) (k i:Nat) (e:En) (h:(lgk lev base L k)[i]?=t e):i<k∧e=lgE lev (base+i+1) (mk (L[i]?.getD (ezz,I)).1):=by
 unfold lgk at h;rw [zuM] at h;rcases zum i k with hi|hi
 ·rw [List.getElem?_range hi] at h;exact ⟨hi,(Option.some.inj h).symm⟩
 ·rw [zuQ (by simpa using hi)] at h
  cases h
def lgd (lev:Int) (base most:Nat) (L:List (En×Bool)):List En:=lgk lev base L (min L.length most)
theorem zsR (E:En) (w:M) {g k:Nat} (h:k≠g):(wz w g E).heap[k]?=w.heap[k]?:=by
 unfold wz;rw [ztX _ _ _ k h,ztX _ _ _ k h,ztX _ _ _ k h,ztX _ _ _ k h,ztX _ _ _ k h,ztX _ _ _ k h,ztX _ _ _ k h,ztX _ _ _ k h,ztX _ _ _ k h,ztX _ _ _ k h,ztX _ _ _ k h]
theorem zkT (A:Option Addr) (n c base most:Nat) (lev:Int) (L:List (En×Bool)) (w:M) (hL:zdr w.heap.size A n L w) (hok:∀ p∈L,p.1.Ok) (hn:(n:Int)≤9223372036854775807) (hb:base≤4611686018427387904) (hm:most≤64) :
 O Q 21 #[qh A n c,f qd base,f y most,f y lev] w fun q w'=>∃ A' n' c',q=V (qh A' n' c')∧Le w.heap.size A' n' c' (lgd lev base most L) w'∧J w.heap.size w w':=by
 have HL:=zh hL;have HO:=zh hok;have hlen:Hid (L.length=n):=hL.len;have hB0:=qe w.heap.size w;clear hL hok;go_enter func21,ntmps21;go_wp2
 go_loopw [9,10] (fun l i wr=>∃ (A':Option Addr) (c' k:Nat),l=qh A' k c'∧i=f y k∧k≤n∧k≤most∧Le w.heap.size A' k c' (lgk lev base L k) wr∧J w.heap.size w wr) (fun _ i _=>most-(qi i).toNat)
 case atStart=>exact ⟨C,0,0,rfl,rfl,ztO _,ztO _,Le.nil _ _,hB0⟩
 case round =>
  obtain ⟨A',c',k,rfl,rfl,hkn,hkm,hLe,hbw⟩:=hrel
  by_cases h1:k<n
  ·have t1:decide ((k:Int)<(n:Int))=H:=ztN (by omega)
   by_cases h2:k<most
   ·have t2:decide ((k:Int)<(most:Int))=H:=ztN (by omega);obtain ⟨p,hp⟩:∃ p,L[k]?=t p:=⟨_,zt2 (by rw [hlen.out];exact h1)⟩;obtain ⟨a,hA,hB,hc⟩:=(HL.out.below hbw).at_ k p hp;obtain ⟨pe,po⟩:=p;have d0:wr.cell? (a.add (k*12))=t (f qd pe.term):=hc 0 (by omega);have d1:wr.cell? ⟨(a.add (k*12)).block,(a.add (k*12)).off+1,C⟩=t (f qd pe.index):=hc 1 (by omega);have d2:wr.cell? ⟨(a.add (k*12)).block,(a.add (k*12)).off+2,C⟩=t (f y pe.kind):=hc 2 (by omega);have d3:wr.cell? ⟨(a.add (k*12)).block,(a.add (k*12)).off+3,C⟩=t (f qd pe.client):=hc 3 (by omega);have d4:wr.cell? ⟨(a.add (k*12)).block,(a.add (k*12)).off+4,C⟩=t (f qd pe.seq):=hc 4 (by omega);have d5:wr.cell? ⟨(a.add (k*12)).block,(a.add (k*12)).off+5,C⟩=t (f qd pe.block):=hc 5 (by omega);have d6:wr.cell? ⟨(a.add (k*12)).block,(a.add (k*12)).off+6,C⟩=t (f qd pe.many):=hc 6 (by omega);have d7:wr.cell? ⟨(a.add (k*12)).block,(a.add (k*12)).off+7,C⟩=t (f y pe.node):=hc 7 (by omega);have d8:wr.cell? ⟨(a.add (k*12)).block,(a.add (k*12)).off+8,C⟩=t (f y pe.level):=hc 8 (by omega);have d9:wr.cell? ⟨(a.add (k*12)).block,(a.add (k*12)).off+9,C⟩=t (qc pe.data):=hc 9 (by omega);have d10:wr.cell? ⟨(a.add (k*12)).block,(a.add (k*12)).off+10,C⟩=t (qc pe.old):=hc 10 (by omega);have d11:wr.cell? ⟨(a.add (k*12)).block,(a.add (k*12)).off+11,C⟩=t (qf po):=hc 11 (by omega);have hpo:pe.Ok:=HO.out _ (zuy hp);have K:=zh (fun (W:M)=>zoX pe W hpo);have hsn:=zh (zpF lev base L k _ hp);obtain ⟨E,hE⟩:∃ E,E=mk pe:=⟨_,rfl⟩;have K2:=zh (fun (W:M)=>zgn E W);have hsn2:Hid (lgk lev base L (k+1)=lgk lev base L k++[lgE lev (base+k+1) E]):=by show _=_;rw [hsn.out,hE]
    have K1:Hid (∀ (W:M),O Q 73 #[mdv pe H] W fun r w'=>r=V (ev E)∧J W.heap.size W w'):=by rw [hE];exact K.out
    have HLe:=zh hLe;have HBW:=zh hbw;clear hc hp hE hB hpo K hsn hLe hbw;rw [hA];clear hA
    go_upto_region 7 with fail
    obtain ⟨W1,hW1⟩:∃ W1,W1=wr.alloc (B (mdc pe H) 76):=⟨_,rfl⟩;have hb1:J w.heap.size w W1:=by rw [hW1];exact HBW.out.alloc HBW.out.size _
    have hl1:Le w.heap.size A' k c' (lgk lev base L k) W1:=by rw [hW1];exact HLe.out.below zba
    have hm1:W1.heap[wr.heap.size]?=t (B (mdc pe H) 76 (0,0)):=by rw [hW1];exact ztJ wr _
    refine zaf (w:=W1) hW1.symm ?_;have HB1:=zh hb1;have HL1:=zh hl1;obtain ⟨m0,m1,m2,m3,m4,m5,m6,m7,m8,m9,m10,m11⟩:=mcl hm1;clear hW1 hb1 hl1 hm1 HLe HBW d0 d1 d2 d3 d4 d5 d6 d7 d8 d9 d10 d11
    go_upto_region 8 with (go_at_call 73;(with_reducible refine (K1.out _).mono ?_);rintro q w1 ⟨rfl,b1⟩)
    obtain ⟨W2,hW2⟩:∃ W2,W2=w1.alloc (B (ec E) 69):=⟨_,rfl⟩;obtain ⟨P,hP⟩:∃ P,P=w1.heap.size:=⟨_,rfl⟩;have hb2:J w.heap.size w W2:=by rw [hW2];exact (HB1.out.trans (b1.mono HB1.out.size)).alloc (ztL HB1.out.size b1.size) _
    have hl2:Le w.heap.size A' k c' (lgk lev base L k) W2:=by rw [hW2];exact (HL1.out.below b1).below zba
    have hp2:W2.heap[P]?=t (B (ec E) 69 (0,0)):=by rw [hW2,hP];exact ztJ w1 _
    have hpr:∀ g,Value.ownBlock (qh A' k c')=t g→g≠P:=fun g hg e=>by
     have:=((HL1.out.below b1).own.lt g hg).2
     omega
    have hpw:w.heap.size≤P:=by rw [hP];exact ztL HB1.out.size b1.size
    refine zaf (w:=W2) hW2.symm ?_;rw [←hP];have HB2:=zh hb2;have HL2:=zh hl2;have HP2:=zh hp2;have HPR:=zh hpr;obtain ⟨n0,n1,n2,n3,n4,n5,n6,n7,n8,n9,n10⟩:=ecz hp2;clear hW2 hb2 hl2 hp2 hpr hP b1 HB1 HL1 K1 m0 m1 m2 m3 m4 m5 m6 m7 m8 m9 m10 m11;have hcc:((base+k+1:Nat):Int)=(base:Int)+k+1:=by omega
    by_cases hlv:lev<lvl E.kind
    ·have tl:decide (lev<lvl E.kind)=H:=ztN hlv;have hlg:lgE lev (base+k+1) E={ (⟨E.term,0,1,E.client,E.seq,E.block,0,0,0,E.data,⟨#[]⟩⟩:En) with index:=(base:Int)+k+1 }:=by unfold lgE lg1;rw [if_pos hlv,hcc]
     have HLG:=zh hlg;clear hlv hlg hcc
     go_upto_region 9 with (go_at_call 74;(with_reducible refine (K2.out _).mono ?_);rintro q w3 ⟨rfl,b3⟩;have HB3:=zh (HB2.out.trans (b3.mono HB2.out.size));have HL3:Hid (Le w.heap.size A' k c' (lgk lev base L k) w3):=HL2.out.below b3;have HP3:=zh ((b3.block _ (zgx HP2.out)).trans HP2.out);obtain ⟨p0,p1,p2,p3,p4,p5,p6,p7,p8,p9,p10⟩:=ecz HP3.out;have pf:∀ i,w3.frozen? ⟨P,i,C⟩=I:=fun i=>zt6 HP3.out i;clear b3)
     go_upto_region 11 with fail
     obtain ⟨G,hG⟩:∃ G:En,G={ (⟨E.term,0,1,E.client,E.seq,E.block,0,0,0,E.data,⟨#[]⟩⟩:En) with index:=(base:Int)+k+1 }:=⟨_,rfl⟩;obtain ⟨W5,hW5⟩:∃ W5,W5=(wz w3 P (⟨E.term,0,1,E.client,E.seq,E.block,0,0,0,E.data,⟨#[]⟩⟩:En)).setCell ⟨P,1,C⟩ (f qd ((base:Int)+k+1)):=⟨_,rfl⟩;have hb5:J w.heap.size w W5:=by rw [hW5];exact (zbU _ HB3.out hpw).setCell (p:=⟨P,1,C⟩) hpw _
     have hl5:Le w.heap.size A' k c' (lgk lev base L k) W5:=⟨zcy HL3.out.own (fun g hg=>by rw [hW5];exact (ztX _ _ _ g (HPR.out g hg)).trans (zsR _ w3 (HPR.out g hg))),HL3.out.len⟩;have hp5:W5.heap[P]?=t (B (ec G) 69 (0,0)):=by rw [hW5,hG];exact zat (zbP _ HP3.out) 1 _
     have hsn3:lgk lev base L (k+1)=lgk lev base L k++[G]:=by rw [hsn2.out,HLG.out,hG]
     have hb6:J w.heap.size w (W5.alloc (B (ec G) 69)):=hb5.alloc hb5.size _;have hl6:Le w.heap.size A' k c' (lgk lev base L k) (W5.alloc (B (ec G) 69)):=hl5.below zba;have hp6:(W5.alloc (B (ec G) 69)).heap[W5.heap.size]?=t (B (ec G) 69 (0,0)):=ztJ W5 _;refine zaf (w:=W5) hW5.symm ?_;obtain ⟨g0,g1,g2,g3,g4,g5,g6,g7,g8,g9,g10⟩:=ecz hp5;have HB6:=zh hb6;have HL6:=zh hl6;have HP6:=zh hp6;have HSN:=zh hsn3;clear hW5 hG hb5 hl5 hp5 hsn3 hb6 hl6 hp6 p0 p1 p2 p3 p4 p5 p6 p7 p8 p9 p10 pf HB3 HL3 HP3
     go_wp2_with (at_builtin;refine zaQ rfl _ _ rfl _ w.heap.size A' k c' W5.heap.size (lgk lev base L k) G rfl rfl HL6.out HP6.out (by omega) HB6.out.size ?_;intro g cap w7 hL7 hb7 hk7)
     go_roundw
     case rel=>exact ⟨_,cap,k+1,rfl,by go_num,h1,h2,by rw [HSN.out];exact hL7,HB6.out.trans hb7⟩
     case measure=>simp [qi];omega
    ·have tl:decide (lev<lvl E.kind)=I:=ztM hlv;have hlg:lgE lev (base+k+1) E={ E with index:=(base:Int)+k+1 }:=by unfold lgE lg1;rw [if_neg hlv,hcc]
     have HLG:=zh hlg;clear hlv hlg hcc
     go_upto_region 10 with (go_at_call 74;(with_reducible refine (K2.out _).mono ?_);rintro q w3 ⟨rfl,b3⟩;have HB3:=zh (HB2.out.trans (b3.mono HB2.out.size));have HL3:Hid (Le w.heap.size A' k c' (lgk lev base L k) w3):=HL2.out.below b3;have HP3:=zh ((b3.block _ (zgx HP2.out)).trans HP2.out);obtain ⟨p0,p1,p2,p3,p4,p5,p6,p7,p8,p9,p10⟩:=ecz HP3.out;have pf:∀ i,w3.frozen? ⟨P,i,C⟩=I:=fun i=>zt6 HP3.out i;clear b3)
     go_upto_region 11 with fail
     obtain ⟨G,hG⟩:∃ G:En,G={ E with index:=(base:Int)+k+1 }:=⟨_,rfl⟩;obtain ⟨W5,hW5⟩:∃ W5,W5=w3.setCell ⟨P,1,C⟩ (f qd ((base:Int)+k+1)):=⟨_,rfl⟩;have hb5:J w.heap.size w W5:=by rw [hW5];exact HB3.out.setCell (p:=⟨P,1,C⟩) hpw _
     have hl5:Le w.heap.size A' k c' (lgk lev base L k) W5:=⟨zcy HL3.out.own (fun g hg=>by rw [hW5];exact (ztX w3 _ _ g (HPR.out g hg)).trans rfl),HL3.out.len⟩;have hp5:W5.heap[P]?=t (B (ec G) 69 (0,0)):=by rw [hW5,hG];exact zat HP3.out 1 _
     have hsn3:lgk lev base L (k+1)=lgk lev base L k++[G]:=by rw [hsn2.out,HLG.out,hG]
     have hb6:J w.heap.size w (W5.alloc (B (ec G) 69)):=hb5.alloc hb5.size _;have hl6:Le w.heap.size A' k c' (lgk lev base L k) (W5.alloc (B (ec G) 69)):=hl5.below zba;have hp6:(W5.alloc (B (ec G) 69)).heap[W5.heap.size]?=t (B (ec G) 69 (0,0)):=ztJ W5 _;refine zaf (w:=W5) hW5.symm ?_;obtain ⟨g0,g1,g2,g3,g4,g5,g6,g7,g8,g9,g10⟩:=ecz hp5;have HB6:=zh hb6;have HL6:=zh hl6;have HP6:=zh hp6;have HSN:=zh hsn3;clear hW5 hG hb5 hl5 hp5 hsn3 hb6 hl6 hp6 p0 p1 p2 p3 p4 p5 p6 p7 p8 p9 p10 pf HB3 HL3 HP3
     go_wp2_with (at_builtin;refine zaQ rfl _ _ rfl _ w.heap.size A' k c' W5.heap.size (lgk lev base L k) G rfl rfl HL6.out HP6.out (by omega) HB6.out.size ?_;intro g cap w7 hL7 hb7 hk7)
     go_roundw
     case rel=>exact ⟨_,cap,k+1,rfl,by go_num,h1,h2,by rw [HSN.out];exact hL7,HB6.out.trans hb7⟩
     case measure=>simp [qi];omega
   ·have t2:decide ((k:Int)<(most:Int))=I:=ztM (by omega);have hfin:lgk lev base L k=lgd lev base most L:=by unfold lgd;rw [hlen.out];congr 1;omega
    rw [hfin] at hLe;have HF:=zh hLe;clear hLe hfin;go_wp2;go_ret;exact ⟨A',k,c',rfl,HF.out,hbw⟩
  ·have t1:decide ((k:Int)<(n:Int))=I:=ztM (by omega);have hfin:lgk lev base L k=lgd lev base most L:=by unfold lgd;rw [hlen.out];congr 1;omega
   rw [hfin] at hLe;have HF:=zh hLe;clear hLe hfin;go_wp2;go_ret;exact ⟨A',k,c',rfl,HF.out,hbw⟩
section
open Dk Vi
def pS (v:Int) (e:En):ByteArray:=rfP v (D.eOv v e) (D.ePv v e)
def pO (v:Int) (e:En):Bool:=D.eOv v e&&pkO v (D.ePv v e)
theorem znk (v:Int) (es:List En) (ok:∀ e∈es,e.Ok):zs4 204 v (pS v) (pO v) es:=fun e he W=>D.zs7 v e W (ok e he)
theorem zha (v:Int) (es:List En) (ok:∀ e∈es,e.Ok):zs4 174 v (pS v) (pO v) es:=fun e he W=>D.zrY v e W (ok e he)
theorem zf2 (v:Int) (e:En):(pS v e).size≤1048600:=by
 unfold pS rfP
 split
 ·exact zgC _ _
 ·exact ztO _
structure zfK (v:Int) (e:En):Prop where
 ok:e.Ok
 o:pO v e=H
 pk:pkO v (D.ePv v e)=H
 s:pS v e=pack v (D.ePv v e)
theorem znl {e:En} (hv:v=1∨v=2) (ok:e.Ok) (hr:zas e=H) (hm:v=1→zdl e=H):zfK v e:=by
 have hb:(D.ePv v e).size≤1048576:=by
  unfold D.ePv
  split
  ·exact D.zgB e ok
  ·exact D.zgA e ok
 have hk:pkO v (D.ePv v e)=H:=zpZ hv hb
 have ho:D.eOv v e=H:=by
  rcases hv with rfl|rfl
  ·exact hm rfl
  ·exact hr
 exact ⟨ok,by unfold pO;rw [ho,hk];rfl,hk,by unfold pS rfP pkS;rw [if_pos ho,if_pos hk]⟩
end
section
open Dk
abbrev RG (at_ many v:Int):Value:=.agg #[f y at_,f y many,f y v]
abbrev rgc (at_ many v:Int):Array Value:=#[f y at_,f y many,f y v]
theorem zfC (at_ v:Int) (m:Nat) (w:M) (hm:m≤1048576):O Q 164 #[RG at_ m v] w fun e w'=>e=V (f y (m*64:Nat))∧J w.heap.size w w':=by
 have hB:=(qe w.heap.size w).alloc (ztI _) (B (rgc at_ m v) 138);have e1:((m*64:Nat):Int)=(m:Int)*64:=by omega
 rw [e1];go_enter func164,ntmps164;go_wp2;go_ret;exact ⟨rfl,hB⟩
def zbC (m:Nat) (u:Int):Bool:=decide (0≤u∧u≤((m*64:Nat):Int))
theorem zjV (at_ v u:Int) (m:Nat) (w:M) (hm:m≤1048576):O Q 140 #[RG at_ m v,f y u] w fun e w'=>e=V (qf (zbC m u))∧J w.heap.size w w':=by
 have hB:=(qe w.heap.size w).alloc (ztI _) (B (rgc at_ m v) 138);have HB:=zh hB;have K:=zh (fun W=>zfC at_ v m W hm);obtain ⟨Z,hZ⟩:∃ Z:Int,Z=((m*64:Nat):Int):=⟨_,rfl⟩;unfold zbC;rw [←hZ] at K ⊢;clear hB hZ
 by_cases h0:0≤u
 ·have t0:decide (0≤u)=H:=ztN h0;have e1:decide (0≤u∧u≤Z)=decide (u≤Z):=by rw [decide_eq_decide];omega
  rw [e1];clear e1;go_enter func140,ntmps140
  go_wp2_with (go_at_call 164;(with_reducible refine (K.out _).mono ?_);rintro q w1 ⟨rfl,b1⟩)
  go_ret;exact ⟨rfl,HB.out.trans (b1.mono HB.out.size)⟩
 ·have t0:decide (0≤u)=I:=ztM h0;have e1:decide (0≤u∧u≤Z)=I:=ztM (by omega);rw [e1];clear e1;go_enter func140,ntmps140
  go_wp2_with (go_at_call 164;(with_reducible refine (K.out _).mono ?_);rintro q w1 ⟨rfl,b1⟩)
  go_ret;exact ⟨rfl,HB.out⟩
def onB (n at_ m:Nat) (v:Int):Bool:=decide (1≤m)&&knB v&&decide ((m:Int)≤(n:Int)-at_)
theorem zg7 (g:Nat) (L:List Nat) (d:St) (at_ m:Nat) (v:Int) (w:M) (h:Dv w g L d) (ha:at_≤1048576) (hm:m≤1048576) :
 O Q 139 #[RG at_ m v,ptr g] w fun e w'=>e=V (qf (onB d.n at_ m v))∧J w.heap.size w w':=by
 have hB:=(qe w.heap.size w).alloc (ztI _) (B (rgc at_ m v) 138);have HB:Hid (∀ k,J w.heap.size w ((w.alloc (B (rgc at_ m v) 138)).drewN k)):=fun k=>below_drewN hB k;have hc:=ztJ w (B (rgc at_ m v) 138);have n2:=h.1.n2;have K1:Hid (∀ W,O Q 195 #[f y v] W fun q w'=>q=V (qf (knB v))∧w'=W):=fun W=>(zie v W).mono fun q w' h=>⟨h.1,h.2.symm⟩;have K2:Hid (∀ W,Dv W g L d→O Q 39 #[ptr g] W fun q w'=>q=V (f y d.n)∧w'=W):=fun W hW=>(zdD g L d W hW).mono fun q w' h=>⟨h.1,h.2.symm⟩;have HD:Hid (∀ k,Dv ((w.alloc (B (rgc at_ m v) 138)).drewN k) g L d):=fun k=>h.below (below_drewN ((qe w.heap.size w).alloc (ztI _) (B (rgc at_ m v) 138)) k);obtain ⟨N,hN⟩:∃ N,N=d.n:=⟨_,rfl⟩;rw [←hN] at K2 n2 ⊢;clear hB hN h;have t0:decide (0≤(at_:Int))=H:=ztN (by omega);have c0:(w.alloc (B (rgc at_ m v) 138)).drew.cell? ⟨w.heap.size,0,C⟩=t (f y at_):=zcr _ _ 0 _ 138 (0,0) hc;have c1:(w.alloc (B (rgc at_ m v) 138)).drew.cell? ⟨w.heap.size,1,C⟩=t (f y m):=zcr _ _ 1 _ 138 (0,0) hc;have c2:(w.alloc (B (rgc at_ m v) 138)).drew.cell? ⟨w.heap.size,2,C⟩=t (f y v):=zcr _ _ 2 _ 138 (0,0) hc;clear hc
 by_cases h1:1≤m
 ·have t1:decide (1≤(m:Int))=H:=ztN (by omega);have e0:onB N at_ m v=(knB v&&decide ((m:Int)≤(N:Int)-at_)):=by unfold onB;rw [ztN h1,zt8]
  rw [e0];clear e0
  cases hk:knB v with
  | true =>
    rw [hk] at K1;rw [zt8]
    cases h3:decide ((m:Int)≤(N:Int)-at_) with
    | true =>
      go_enter func139,ntmps139
      go_upto_region 1 with fail
      go_quiet (first|(go_at_call 195;exact Calls.quiet_of_same (K1.out _))|(go_at_call 39;exact Calls.quiet_of_same (K2.out _ (HD.out _))))
      go_wp2;go_ret;exact ⟨rfl,HB.out _⟩
    | false =>
      go_enter func139,ntmps139
      go_upto_region 1 with fail
      go_quiet (first|(go_at_call 195;exact Calls.quiet_of_same (K1.out _))|(go_at_call 39;exact Calls.quiet_of_same (K2.out _ (HD.out _))))
      go_wp2;go_ret;exact ⟨rfl,HB.out _⟩
  | false =>
    rw [hk] at K1;rw [zun];go_enter func139,ntmps139
    go_upto_region 1 with fail
    go_quiet (first|(go_at_call 195;exact Calls.quiet_of_same (K1.out _))|(go_at_call 39;exact Calls.quiet_of_same (K2.out _ (HD.out _))))
    go_wp2;go_ret;exact ⟨rfl,HB.out _⟩
 ·have t1:decide (1≤(m:Int))=I:=ztM (by omega);have e0:onB N at_ m v=I:=by unfold onB;rw [ztM h1];rfl
  rw [e0];clear e0;go_enter func139,ntmps139
  go_upto_region 1 with fail
  go_quiet (first|(go_at_call 195;exact Calls.quiet_of_same (K1.out _))|(go_at_call 39;exact Calls.quiet_of_same (K2.out _ (HD.out _))))
  go_wp2;go_ret;exact ⟨rfl,HB.out _⟩
end
section
open Dk
theorem zil (F:Nat) (hF:F=197∨F=185) (a b c:Value) (fro til:Nat) (P:Nat→M→Prop) (R:Int→M→Prop) (w:M) (hft:fro≤til) (hto:til≤1099511627776) (h0:P fro w)
 (hs:∀ k w1,fro≤k→k<til→P k w1→O Q F #[f y k,a,b,c] w1 fun e w'=>∃ z:Int,e=V (f y z)∧(z=0→P (k+1) w')∧(z≠0→R z w')) :
 O Q 184 #[f y fro,f y til,.func (.func F) #[] #[a,b,c]] w fun e w'=>∃ z:Int,e=V (f y z)∧(z=0→P til w')∧(z≠0→R z w'):=by
 have HS:=zh hs;have H0:=zh h0;clear hs h0;rcases hF with rfl|rfl
 all_goals
  go_enter func184,ntmps184;go_wp2
  go_loopw [7] (fun i wr=>∃ k:Nat,i=f y k∧fro≤k∧k≤til∧Hid (P k wr)) (fun i _=>til-(qi i).toNat)
  case atStart=>exact ⟨fro,rfl,ztI _,hft,H0⟩
  case round =>
   obtain ⟨k,rfl,hk1,hk2,hP⟩:=hrel
   by_cases hlt:k<til
   ·have t1:decide ((k:Int)<(til:Int))=H:=ztN (by omega);have K:=zh (HS.out k wr hk1 hlt hP.out)
    go_upto_region 5 with fail
    refine K.out.mono ?_;rintro q w1 ⟨z,rfl,hz0,hz1⟩;clear K hP
    by_cases hz:z=0
    ·have Z0:Hid (P (k+1) w1):=hz0 hz;clear hz0 hz1;subst hz;go_wp2
     go_roundw
     case rel=>exact ⟨k+1,by go_num,by omega,by omega,Z0⟩
     case measure=>simp [qi];omega
    ·have Z1:=zh (hz1 hz);clear hz0 hz1;have e1:(z==0)=I:=zcw hz;have e2:(z != 0)=H:=by unfold bne;rw [e1];rfl
     go_wp2;go_ret;exact ⟨z,rfl,fun h=>absurd h hz,fun _=>Z1.out⟩
   ·have hkt:k=til:=by omega
    subst hkt;have t1:decide ((k:Int)<(k:Int))=I:=ztM (by omega);go_wp2;go_ret;exact ⟨0,rfl,fun _=>hP.out,fun h=>absurd rfl h⟩
end
section
open Dk
theorem zrL (g:Nat) (L:List Nat) (d:St) (b5 b9 b7 first k:Nat) (l:List UInt8) (w:M) (h:Dv w g L d) (h5:w.heap[b5]?=t (B #[ptr g] 24 (0,0))) (h9:w.heap[b9]?=t (B #[f y first] 3 (0,0)))
 (h7:w.heap[b7]?=t (B #[qc (txt l)] 9 (0,0))) (hk:k*64≤l.length) (hl:l.length≤1099511627776) (hf:first≤1099511627776) :
 O Q 197 #[f y k,ptr b5,ptr b9,ptr b7] w fun e w'=>e=V (f y (d.write ((first+k:Nat):Int) ((l.drop (k*64)).take 64)).2)∧zav g L (d.write ((first+k:Nat):Int) ((l.drop (k*64)).take 64)).1 w w':=by
 have c5:w.drew.cell? ⟨b5,0,C⟩=t (ptr g):=zcr w.drew b5 0 _ 24 (0,0) h5;have c9:w.drew.cell? ⟨b9,0,C⟩=t (f y first):=zcr w.drew b9 0 _ 3 (0,0) h9;have c7:w.drew.cell? ⟨b7,0,C⟩=t (qc (txt l)):=zcr w.drew b7 0 _ 9 (0,0) h7;have hd:Dv w.drew g L d:=h.below (qe _ w).drew;have KW:=zh (zea g L d ((first+k:Nat):Int) ((l.drop (k*64)).take 64) w.drew hd);rw [show ((first+k:Nat):Int)=(first:Int)+k by omega] at KW ⊢;obtain ⟨D,hD⟩:∃ D,D=d.write ((first:Int)+k) ((l.drop (k*64)).take 64):=⟨_,rfl⟩;rw [←hD] at KW ⊢;have hx:=zlh l (k*64) (min (k*64+64) l.length) rfl;obtain ⟨p,hp⟩:∃ p,p=(l.drop (k*64)).take 64:=⟨_,rfl⟩;rw [←hp] at KW hx;have hz:=zah l;obtain ⟨S,hS⟩:∃ S,S=txt l:=⟨_,rfl⟩;rw [←hS] at c7 hx hz;obtain ⟨n,hn⟩:∃ n,n=l.length:=⟨_,rfl⟩;rw [←hn] at hx hk hl hz;obtain ⟨m,hm⟩:∃ m,m=min (k*64+64) n:=⟨_,rfl⟩;rw [←hm] at hx;have hmI:min ((k:Int)*64+64) (S.size:Int)=(m:Int):=by rw [hz,hm];omega
 have hmI2:min ((k:Int)*64+64) (n:Int)=(m:Int):=by rw [hm];omega
 have hmn:m≤n:=by omega
 have hkm:k*64≤m:=by omega
 have q1:(m:Int)≤(n:Int):=by omega
 have q2:(k:Int)*64≤(m:Int):=by omega
 have q0:(0:Int)≤(k:Int)*64:=by omega
 have q3:((k:Int)*64).toNat=k*64:=by omega
 have w1:y.wrap ((k:Int)*64+64)=(k:Int)*64+64:=IntWalk.i64_in _ (by omega);have w2:y.wrap ((first:Int)+k)=(first:Int)+k:=IntWalk.i64_in _ (by omega);clear hD hp hS hn hm h h5 h9 h7 hd;unfold ptr at *;go_enter func197,ntmps197
 go_upto_region 2 with fail
 go_region_law (go_simp;go_at_call 69;(with_reducible refine KW.out.mono ?_);rintro q w5 ⟨rfl,hM⟩)
 all_goals
  go_wp2;go_ret;obtain ⟨L',m1,m2,m3⟩:=hM;exact ⟨rfl,L',m1,(zaw.of_below (qe _ w).drew).trans m2,m3⟩
end
section
open Dk
def wrS (d:St) (first:Nat) (l:List UInt8):St×Int:=wrL first l ((l.length+63) / 64) 0 d
theorem znx (g:Nat) (L:List Nat) (d:St) (at_ from_:Nat) (m v:Int) (l:List UInt8) (w:M) (h:Dv w g L d) (ha:at_≤1048576) (hf:from_≤1099511627776) (hl:l.length≤1099511627776) :
 O Q 144 #[RG at_ m v,ptr g,f y from_,qc (txt l)] w fun e w'=>e=V (f y (wrS d (at_+from_ / 64) l).2)∧zav g L (wrS d (at_+from_ / 64) l).1 w w':=by
 obtain ⟨T,hT⟩:∃ T,T=wrS d (at_+from_ / 64) l:=⟨_,rfl⟩;rw [←hT];obtain ⟨N,hN⟩:∃ N,N=(l.length+63) / 64:=⟨_,rfl⟩;have hz:=zah l;have KS:=zh (fun (W:M)=>zbS l.length W (by omega));rw [←hN] at KS;have hN2:N≤1099511627776:=by omega
 have KEY:Hid (∀ W,W=(((w.alloc (B (rgc at_ m v) 138)).alloc (B #[ptr g] 24)).alloc (B #[qc (txt l)] 9)).alloc (B #[f y (at_+from_ / 64:Nat)] 3) →
  O Q 184 #[f y 0,f y N,.func (.func 197) #[] #[ptr (w.heap.size+1),ptr (w.heap.size+3),ptr (w.heap.size+2)]] W fun e w'=>e=V (f y T.2)∧zav g L T.1 w w'):=fun W hW=>by
  have hb:J w.heap.size w W:=by
   rw [hW];exact ((((qe _ w).alloc (ztI _) _).alloc (by simp) _).alloc (by simp;omega) _).alloc (by simp;omega) _
  have hs:W.heap.size=w.heap.size+4:=by rw [hW];simp
  have h5:W.heap[w.heap.size+1]?=t (B #[ptr g] 24 (0,0)):=by
   rw [hW,ztQ _ _ _ (by simp),ztQ _ _ _ (by simp)]
   have:=ztJ (w.alloc (B (rgc at_ m v) 138)) (B #[ptr g] 24)
   rwa [ztR] at this
  have h7:W.heap[w.heap.size+2]?=t (B #[qc (txt l)] 9 (0,0)):=by
   rw [hW,ztQ _ _ _ (by simp)]
   have:=ztJ ((w.alloc (B (rgc at_ m v) 138)).alloc (B #[ptr g] 24)) (B #[qc (txt l)] 9)
   rwa [ztR,ztR] at this
  have h9:W.heap[w.heap.size+3]?=t (B #[f y (at_+from_ / 64:Nat)] 3 (0,0)):=by
   rw [hW]
   have:=ztJ (((w.alloc (B (rgc at_ m v) 138)).alloc (B #[ptr g] 24)).alloc (B #[qc (txt l)] 9)) (B #[f y (at_+from_ / 64:Nat)] 3)
   rwa [ztR,ztR,ztR] at this
  have hLw:=h.lt;have hD:=h.below hb;have hkW:zaw L w W:=zaw.of_below hb
  refine (zil 197 (.inl rfl) (ptr (w.heap.size+1)) (ptr (w.heap.size+3)) (ptr (w.heap.size+2)) 0 N
   (fun k w1=>∃ L' d',Dv w1 g L' d'∧zaw L W w1∧zaV W L L'∧wrL (at_+from_ / 64) l (N-k) k d'=T) (fun z w1=>z=T.2∧zav g L T.1 w w1) W (ztO _) hN2 ⟨L,d,hD,zaw.refl _ _,zaV.refl _ _,by rw [hT];unfold wrS;rw [hN];rfl⟩ ?_).mono ?_
  ·rintro k w1 _ hk ⟨L1,d1,hD1,hK1,hF1,hw1⟩;have hk64:k*64≤l.length:=by omega
   have hblk:∀ j,w.heap.size≤j→j<W.heap.size→w1.heap[j]?=W.heap[j]?:=fun j h1 h2=>hK1.block j h2 fun hm=>by have:=hLw j hm;omega
   have hst:wrL (at_+from_ / 64) l (N-k) k d1=if (d1.write ((at_+from_ / 64+k:Nat):Int) ((l.drop (k*64)).take 64)).2=0 then wrL (at_+from_ / 64) l (N-(k+1)) (k+1) (d1.write ((at_+from_ / 64+k:Nat):Int) ((l.drop (k*64)).take 64)).1 else d1.write ((at_+from_ / 64+k:Nat):Int) ((l.drop (k*64)).take 64):=by
    rw [show N-k=(N-(k+1))+1 by omega];rfl
   rw [hw1] at hst;refine (zrL g L1 d1 (w.heap.size+1) (w.heap.size+3) (w.heap.size+2) (at_+from_ / 64) k l w1 hD1 ((hblk _ (by omega) (by omega)).trans h5) ((hblk _ (by omega) (by omega)).trans h9) ((hblk _ (by omega) (by omega)).trans h7) hk64 hl (by omega)).mono ?_;rintro e w2 ⟨rfl,L2,hD2,hK2,hF2⟩;have hK3:zaw L W w2:=hK1.trans' hK2 hF1;have hF3:zaV W L L2:=hF1.trans hF2 hK1.size;refine ⟨_,rfl,fun hz=>?_,fun hz=>?_⟩
   ·rw [if_pos hz] at hst;exact ⟨L2,_,hD2,hK3,hF3,hst.symm⟩
   ·rw [if_neg hz] at hst;rw [hst];exact ⟨rfl,L2,hD2,hkW.trans hK3,fun k hk=>(hF3 k hk).elim .inl (fun h=>.inr (ztL hb.size h))⟩
  ·rintro e w1 ⟨z,rfl,hz0,hz1⟩
   by_cases hz:z=0
   ·obtain ⟨L1,d1,hD1,hK1,hF1,hw1⟩:=hz0 hz;rw [Nat.sub_self] at hw1;have hT2:T=(d1,0):=hw1.symm;rw [hT2];exact ⟨by rw [hz],L1,hD1,hkW.trans hK1,fun k hk=>(hF1 k hk).elim .inl (fun h=>.inr (ztL hb.size h))⟩
   ·obtain ⟨h1,h2⟩:=hz1 hz;exact ⟨by rw [h1],h2⟩
 have hi1:((at_+from_ / 64:Nat):Int)=(at_:Int)+(from_:Int) / 64:=by omega
 rw [hi1] at KEY;obtain ⟨S,hS⟩:∃ S,S=txt l:=⟨_,rfl⟩;rw [←hS] at KEY hz ⊢;clear hT hN hS h;obtain ⟨n,hn⟩:∃ n,n=l.length:=⟨_,rfl⟩;rw [←hn] at KS hz hl;clear hn hi1;unfold ptr at *;go_enter func144,ntmps144
 go_upto_region 2 with fail
 go_wp2_with (first|(go_at_call 196;(with_reducible refine (KS.out _).mono ?_);rintro q w1 ⟨rfl,rfl⟩)|(go_at_call 184;(with_reducible refine (KEY.out _ rfl).mono ?_);rintro q w1 ⟨rfl,hM⟩))
 go_ret;exact ⟨rfl,hM⟩
end
section
open Dk
def rgS (v:Int) (m u:Nat) (es:List En):ByteArray:=if rcO v (pO v) es&&decide (((rcS v (pS v) (pO v) es).size:Int)≤((m*64:Nat):Int)-u) then rcS v (pS v) (pO v) es else ⟨#[]⟩
def rgE (v:Int) (m u:Nat) (es:List En):Int:=if rcO v (pO v) es then (if ((rcS v (pS v) (pO v) es).size:Int)≤((m*64:Nat):Int)-u then 0 else 4) else 1
theorem zif (at_ v:Int) (m u:Nat) (A:Option Addr) (n c:Nat) (es:List En) (w:M) (hm:m≤1048576) (hu:u≤1099511627776) (hE:zcx w.heap.size A n es w) (hn:n≤64) (ok:∀ e∈es,e.Ok) :
 O Q 142 #[RG at_ m v,f y u,qh A n c] w fun e w'=>e=V (.tuple #[qc (rgS v m u es),f y (rgE v m u es)])∧J w.heap.size w w':=by
 obtain ⟨W,hW⟩:∃ W,W=w.alloc (B (rgc at_ m v) 138):=⟨_,rfl⟩;have hB:J w.heap.size w W:=by rw [hW];exact (qe _ w).alloc (ztI _) _
 have hc:W.heap[w.heap.size]?=t (B (rgc at_ m v) 138 (0,0)):=by rw [hW];exact ztJ w _
 have K1:=zh (zfF v (pS v) (pO v) A n c es W ((hE.below hB).mr hB.size) hn (fun e _=>ztL (zf2 v e) (by omega)) (znk v es ok));have K2:=zh (fun W=>zfC at_ v m W hm)
 have hsz:(rcS v (pS v) (pO v) es).size≤1099511627776:=by
  have h1:(rcS v (pS v) (pO v) es).size≤es.length*1048663:=by
   unfold rcS
   split
   ·exact zfE v (pS v) 1048600 es fun e _=>zf2 v e
   ·exact ztO _
  rw [hE.len] at h1;omega
 unfold rgS rgE;obtain ⟨s,hs⟩:∃ s,s=rcS v (pS v) (pO v) es:=⟨_,rfl⟩;obtain ⟨o,ho⟩:∃ o,o=rcO v (pO v) es:=⟨_,rfl⟩;rw [←hs,←ho] at K1 ⊢;rw [←hs] at hsz;obtain ⟨Z,hZ⟩:∃ Z:Int,Z=((m*64:Nat):Int):=⟨_,rfl⟩;have hZb:0≤Z∧Z≤67108864:=by omega
 rw [←hZ] at K2 ⊢;obtain ⟨rs,hrs⟩:∃ x:ByteArray,x=if (o&&decide ((s.size:Int)≤Z-u))=H then s else ⟨#[]⟩:=⟨_,rfl⟩
 obtain ⟨re,hre⟩:∃ x:Int,x=if o=H then (if (s.size:Int)≤Z-u then 0 else 4) else 1:=⟨_,rfl⟩
 rw [←hrs,←hre];have HB:=zh hB;have HC:=zh hc;have HW:=zh hW;have c0:W.cell? ⟨w.heap.size,0,C⟩=t (f y at_):=zcr _ _ 0 _ 138 (0,0) hc;have c1:W.cell? ⟨w.heap.size,1,C⟩=t (f y m):=zcr _ _ 1 _ 138 (0,0) hc;have c2:W.cell? ⟨w.heap.size,2,C⟩=t (f y v):=zcr _ _ 2 _ 138 (0,0) hc;clear hs ho hZ hB hc hW hE ok
 cases o with
 | false =>
   obtain rfl:rs=⟨#[]⟩:=by rw [hrs];rfl
   obtain rfl:re=1:=by rw [hre];rfl
   clear hrs hre;go_enter func142,ntmps142
   go_upto_region 1 with fail
   refine zaf (w:=W) HW.out.symm ?_
   go_wp2_with (go_at_call 154;(with_reducible refine K1.out.mono ?_);rintro q w1 ⟨rfl,b1⟩)
   go_ret2;exact ⟨rfl,HB.out.trans (b1.mono HB.out.size)⟩
 | true =>
   go_enter func142,ntmps142
   go_upto_region 1 with fail
   refine zaf (w:=W) HW.out.symm ?_
   go_upto_region 4 with (go_at_call 154;(with_reducible refine K1.out.mono ?_);rintro q w1 ⟨rfl,b1⟩)
   have HB1:=zh (HB.out.trans (b1.mono HB.out.size));have hc1:w1.heap[w.heap.size]?=t (B (rgc at_ m v) 138 (0,0)):=(b1.block _ (zgx HC.out)).trans HC.out;have e0:w1.cell? ⟨w.heap.size,0,C⟩=t (f y at_):=zcr _ _ 0 _ 138 (0,0) hc1;have e1:w1.cell? ⟨w.heap.size,1,C⟩=t (f y m):=zcr _ _ 1 _ 138 (0,0) hc1;have e2:w1.cell? ⟨w.heap.size,2,C⟩=t (f y v):=zcr _ _ 2 _ 138 (0,0) hc1;clear b1 hc1 c0 c1 c2
   by_cases hle:(s.size:Int)≤Z-u
   ·have t1:decide (Z-(u:Int)<(s.size:Int))=I:=ztM (by omega);obtain rfl:rs=s:=by rw [hrs,ztN hle];rfl
    obtain rfl:re=0:=by rw [hre];simp [hle]
    clear hrs hre hle
    go_wp2_with (go_at_call 164;(with_reducible refine (K2.out _).mono ?_);rintro q w2 ⟨rfl,b2⟩)
    go_ret2;exact ⟨rfl,HB1.out.trans (b2.mono HB1.out.size)⟩
   ·have t1:decide (Z-(u:Int)<(s.size:Int))=H:=ztN (by omega);obtain rfl:rs=⟨#[]⟩:=by rw [hrs,ztM hle];rfl
    obtain rfl:re=4:=by rw [hre];simp [hle]
    clear hrs hre hle
    go_wp2_with (go_at_call 164;(with_reducible refine (K2.out _).mono ?_);rintro q w2 ⟨rfl,b2⟩)
    go_ret2;exact ⟨rfl,HB1.out.trans (b2.mono HB1.out.size)⟩
def ahL (d:St) (at_ u:Nat):List UInt8:=if u % 64=0 then [] else if d.refuses ((at_+u / 64:Nat):Int)=0 then (d.now (at_+u / 64)).take (u % 64) else []
def ahZ (d:St) (at_ u:Nat):Int:=if u % 64=0 then 0 else d.refuses ((at_+u / 64:Nat):Int)
theorem zeW (l:List UInt8) (k:Nat):(txt l).extract 0 k=txt (l.take k):=by
 apply ByteArray.ext;apply Array.toList_inj.1;rw [zuB,zuJ,zal,zal,zuO,List.drop_zero,Nat.sub_zero]
theorem zpC (g:Nat) (L:List Nat) (d:St) (at_ u:Nat) (m v:Int) (w:M) (h:Dv w g L d) (ha:at_≤1048576) (hu:u≤1099511627776) :
 O Q 143 #[RG at_ m v,ptr g,f y u] w fun e w'=>e=V (.tuple #[qc (txt (ahL d at_ u)),f y (ahZ d at_ u)])∧J w.heap.size w w':=by
 obtain ⟨W,hW⟩:∃ W,W=w.alloc (B (rgc at_ m v) 138):=⟨_,rfl⟩;have hB:J w.heap.size w W:=by rw [hW];exact (qe _ w).alloc (ztI _) _
 have hc:W.heap[w.heap.size]?=t (B (rgc at_ m v) 138 (0,0)):=by rw [hW];exact ztJ w _
 have K1:=zh (zd6 g L d ((at_+u / 64:Nat):Int) W (h.below hB));have i1:((at_+u / 64:Nat):Int)=(at_:Int)+(u:Int) / 64:=by omega
 have i2:((u % 64:Nat):Int)=(u:Int) % 64:=by omega
 have HB:=zh hB;have HW:=zh hW;have c0:W.cell? ⟨w.heap.size,0,C⟩=t (f y at_):=zcr _ _ 0 _ 138 (0,0) hc;have hn64:(d.now (at_+u / 64)).length=64:=h.1.now _;unfold ahL ahZ;clear hB hc hW h
 by_cases h0:u % 64=0
 ·rw [if_pos h0,if_pos h0];have t0:((u:Int) % 64==0)=H:=by rw [←i2,h0];rfl
  have hz:txt []=⟨#[]⟩:=rfl;rw [hz];clear h0 i1 i2 K1 hn64;go_enter func143,ntmps143
  go_upto_region 1 with fail
  refine zaf (w:=W) HW.out.symm ?_;go_wp2;go_ret2;exact ⟨rfl,HB.out⟩
 ·rw [if_neg h0,if_neg h0];have t0:((u:Int) % 64==0)=I:=by rw [←i2];exact zcw (by omega)
  by_cases hr:d.refuses ((at_+u / 64:Nat):Int)=0
  ·rw [if_pos hr];have e1:d.readS ((at_+u / 64:Nat):Int)=d.now (at_+u / 64):=by unfold St.readS;rw [if_pos hr,ztV]
   rw [e1,hr,i1] at K1;rw [hr];have hx:=zeW (d.now (at_+u / 64)) (u % 64);have hs:(txt (d.now (at_+u / 64))).size=64:=by rw [zah];exact hn64
   obtain ⟨S,hS⟩:∃ S,S=txt (d.now (at_+u / 64)):=⟨_,rfl⟩;rw [←hS] at K1 hx hs;rw [←hx];have q1:((u:Int) % 64).toNat=u % 64:=by omega
   have q2:(u:Int) % 64≤(S.size:Int):=by omega
   have q3:(0:Int)≤(u:Int) % 64:=by omega
   clear hr hx hS e1 i1 h0 hn64;go_enter func143,ntmps143
   go_upto_region 1 with fail
   refine zaf (w:=W) HW.out.symm ?_
   go_wp2_with (go_at_call 181;(with_reducible refine K1.out.mono ?_);rintro q w1 ⟨rfl,b1⟩)
   go_ret2;exact ⟨rfl,HB.out.trans (b1.mono HB.out.size)⟩
  ·rw [if_neg hr];have e1:d.readS ((at_+u / 64:Nat):Int)=[]:=by unfold St.readS;rw [if_neg hr]
   have hz:txt []=⟨#[]⟩:=rfl;obtain ⟨Z,hZ⟩:∃ Z,Z=d.refuses ((at_+u / 64:Nat):Int):=⟨_,rfl⟩;rw [←hZ] at K1 hr ⊢;rw [e1,hz,i1] at K1;rw [hz];have t2:(Z==0)=I:=zcw hr;have t3:(Z != 0)=H:=by unfold bne;rw [t2];rfl
   clear hr hZ e1 i1 h0 hn64;go_enter func143,ntmps143
   go_upto_region 1 with fail
   refine zaf (w:=W) HW.out.symm ?_
   go_wp2_with (go_at_call 181;(with_reducible refine K1.out.mono ?_);rintro q w1 ⟨rfl,b1⟩)
   go_ret2;exact ⟨rfl,HB.out.trans (b1.mono HB.out.size)⟩
end
section
open Dk
def zbI (d:St) (at_ m:Nat) (v:Int) (u:Nat) (es:List En):St×Int×Int :=
 if rgE v m u es≠0 then (d,0,rgE v m u es)
 else if rgS v m u es=⟨#[]⟩ then (d,u,0)
 else if ahZ d at_ u≠0 then (d,0,ahZ d at_ u)
 else if (wrS d (at_+(u-(ahL d at_ u).length) / 64) (ahL d at_ u++(rgS v m u es).data.toList)).2≠0 then ((wrS d (at_+(u-(ahL d at_ u).length) / 64) (ahL d at_ u++(rgS v m u es).data.toList)).1,0,(wrS d (at_+(u-(ahL d at_ u).length) / 64) (ahL d at_ u++(rgS v m u es).data.toList)).2)
 else ((wrS d (at_+(u-(ahL d at_ u).length) / 64) (ahL d at_ u++(rgS v m u es).data.toList)).1,((u+(rgS v m u es).size:Nat):Int),0)
theorem zaP {a m:Int} (h:w.heap[b]?=t (B (rgc a m v) 138 (0,0))):w.cell? ⟨b,0,C⟩=t (f y a)∧w.cell? ⟨b,1,C⟩=t (f y m)∧w.cell? ⟨b,2,C⟩=t (f y v) :=
 ⟨zcr _ _ 0 _ 138 (0,0) h,zcr _ _ 1 _ 138 (0,0) h,zcr _ _ 2 _ 138 (0,0) h⟩
theorem zkR (d:St) (at_ u:Nat):(ahL d at_ u).length≤u∧(ahL d at_ u).length≤64:=by
 unfold ahL
 split
 ·exact ⟨ztO _,by simp⟩
 ·split
  ·rw [zt5];omega
  ·exact ⟨ztO _,by simp⟩
theorem zm9 (a:List UInt8) (s:ByteArray):txt a++s=txt (a++s.data.toList):=by
 apply ByteArray.ext;apply Array.toList_inj.1;rw [zup,zuC,zal,zal]
theorem zsN (g:Nat) (L:List Nat) (d:St) (at_ m U:Nat) (v:Int) (A:Option Addr) (n c:Nat) (es:List En) (w:M) (h:Dv w g L d) (ha:at_≤1048576) (hm:m≤1048576)
 (hon:onB d.n at_ m v=H) (hhas:zbC m U=H) (hbg:bgn v U=U) (hE:zcx w.heap.size A n es w) (hn:n≤64) (ok:∀ e∈es,e.Ok) :
 O Q 80 #[ptr g,RG at_ m v,f y U,qh A n c] w fun e w'=>e=V (.tuple #[f y (zbI d at_ m v U es).2.1,f y (zbI d at_ m v U es).2.2])∧zav g L (zbI d at_ m v U es).1 w w':=by
 obtain ⟨W,hW⟩:∃ W,W=w.alloc (B (rgc at_ m v) 138):=⟨_,rfl⟩;have hB:J w.heap.size w W:=by rw [hW];exact (qe _ w).alloc (ztI _) _
 have hc:W.heap[w.heap.size]?=t (B (rgc at_ m v) 138 (0,0)):=by rw [hW];exact ztJ w _
 have hu:0≤(U:Int)∧(U:Int)≤((m*64:Nat):Int):=of_decide_eq_true hhas;have hU:U≤67108864:=by omega
 have hsz:(rgS v m U es).size≤134217728:=by
  have h1:(rcS v (pS v) (pO v) es).size≤es.length*1048663:=by
   unfold rcS
   split
   ·exact zfE v (pS v) 1048600 es fun e _=>zf2 v e
   ·exact ztO _
  rw [hE.len] at h1;unfold rgS
  split
  ·omega
  ·exact ztO _
 have hal:=zkR d at_ U;have K1:=zh (zg7 g L d at_ m v W (h.below hB) ha hm);have K2:=zh (fun W=>zjV at_ v U m W hm);have K3:=zh (fun W=>zfA v U W (by omega));have K4:=zh (fun W (hW:zcx W.heap.size A n es W)=>zif at_ v m U A n c es W hm (by omega) hW hn ok);have K5:=zh (fun W (hW:Dv W g L d)=>zpC g L d at_ U m v W hW ha (by omega))
 have K6:Hid (∀ W,Dv W g L d→O Q 144 #[RG at_ m v,ptr g,f y ((U:Int)-((ahL d at_ U).length:Nat)),qc (txt (ahL d at_ U++(rgS v m U es).data.toList))] W fun e w'=>e=V (f y (wrS d (at_+(U-(ahL d at_ U).length) / 64) (ahL d at_ U++(rgS v m U es).data.toList)).2)∧zav g L (wrS d (at_+(U-(ahL d at_ U).length) / 64) (ahL d at_ U++(rgS v m U es).data.toList)).1 W w'):=fun W hW=>by
  have hl:(ahL d at_ U++(rgS v m U es).data.toList).length≤1099511627776:=by
   rw [zt4,zug];have h2:(rgS v m U es).data.size≤134217728:=hsz;exact ztL (Nat.add_le_add hal.2 h2) (by decide)
  have:=znx g L d at_ (U-(ahL d at_ U).length) m v (ahL d at_ U++(rgS v m U es).data.toList) W hW ha (by omega) hl
  rw [show ((U-(ahL d at_ U).length:Nat):Int)=(U:Int)-((ahL d at_ U).length:Nat) by omega] at this;exact this
 rw [hon] at K1;rw [hhas] at K2;rw [hbg] at K3;obtain ⟨AG,hAG⟩:∃ AG,AG=zbI d at_ m v U es:=⟨_,rfl⟩;rw [←hAG];unfold zbI at hAG;obtain ⟨X,hX⟩:∃ X,X=wrS d (at_+(U-(ahL d at_ U).length) / 64) (ahL d at_ U++(rgS v m U es).data.toList):=⟨_,rfl⟩;obtain ⟨E,hEq⟩:∃ E,E=rgE v m U es:=⟨_,rfl⟩;obtain ⟨Z,hZ⟩:∃ Z,Z=ahZ d at_ U:=⟨_,rfl⟩;rw [←hX,←zm9] at K6;rw [←hX,←hEq,←hZ] at hAG;rw [←hEq] at K4;rw [←hZ] at K5;obtain ⟨S,hS⟩:∃ S,S=rgS v m U es:=⟨_,rfl⟩;rw [←hS] at K4 K6 hsz hAG;have htz:=zah (ahL d at_ U);obtain ⟨al,hal2⟩:∃ l,l=(ahL d at_ U).length:=⟨_,rfl⟩;rw [←hal2] at K6 htz hal;obtain ⟨T,hT⟩:∃ T,T=txt (ahL d at_ U):=⟨_,rfl⟩;rw [←hT] at K5 K6 htz;have halU:al≤U:=hal.1;have hT64:al≤64:=hal.2;have hadd:¬ 9223372036854775807<T.size+S.size:=by omega
 have hadd2:¬ 9223372036854775807<al+S.size:=by omega
 have HD:=zh (h.below hB);have HE:=zh ((hE.below hB).mr hB.size);have HB:=zh hB;have HC:=zh hc;have HW:=zh hW;have HD0:=zh h;obtain ⟨c0,c1,c2⟩:=zaP hc;have HAG:=zh hAG;clear hB hc hW h hE hX hEq hZ hS hal2 hT hon hhas hbg hal ok hu hAG;have fin:Hid (∀ W',J w.heap.size w W'→zav g L d w W'):=fun W' hb=>⟨L,HD0.out.below hb,zaw.of_below hb,zaV.refl _ _⟩;unfold ptr at *;have q1:((U:Int)==(U:Int))=H:=by simp
 go_enter func80,ntmps80
 go_upto_region 1 with fail
 refine zaf (w:=W) HW.out.symm ?_
 go_upto_region 3 with (first
  | (go_at_call 139;(with_reducible refine K1.out.mono ?_);rintro q w1 ⟨rfl,b1⟩;have HC1:=zh ((b1.block _ (zgx HC.out)).trans HC.out);obtain ⟨e0,e1,e2⟩:=zaP HC1.out;have HB1:=zh (HB.out.trans (b1.mono HB.out.size));have HD1:=zh (HD.out.below b1);have HE1:=zh ((HE.out.below b1).mr b1.size);clear b1)
  | (go_at_call 140;(with_reducible refine (K2.out _).mono ?_);rintro q w2 ⟨rfl,b2⟩;have HC2:=zh ((b2.block _ (zgx HC1.out)).trans HC1.out);obtain ⟨f0,f1,f2⟩:=zaP HC2.out;have HB2:=zh (HB1.out.trans (b2.mono HB1.out.size));have HD2:=zh (HD1.out.below b2);have HE2:=zh ((HE1.out.below b2).mr b2.size);clear b2)
  | (go_at_call 141;(with_reducible refine (K3.out _).mono ?_);rintro q w3 ⟨rfl,rfl⟩))
 clear c0 c1 c2 e0 e1 e2
 go_upto_region 4 with (go_at_call 142;(with_reducible refine (K4.out _ HE2.out).mono ?_);rintro q w4 ⟨rfl,b4⟩)
 have HC4:=zh ((b4.block _ (zgx HC2.out)).trans HC2.out);obtain ⟨c0,c1,c2⟩:=zaP HC4.out;have HB4:=zh (HB2.out.trans (b4.mono HB2.out.size));have HD4:=zh (HD2.out.below b4);clear b4 f0 f1 f2 HE HE1 HE2 HC HC1 HC2 HB HB1 HB2 HD HD1 HD2
 by_cases hE0:E=0
 rotate_left
 ·have t1:(E==0)=I:=zcw hE0;have t2:(E != 0)=H:=by unfold bne;rw [t1];rfl
  have hR:AG=(d,0,E):=by rw [HAG.out,if_pos hE0]
  subst hR;clear hE0 HAG;go_wp2;go_ret2;exact ⟨rfl,fin.out _ HB4.out⟩
 subst hE0
 by_cases hS0:S=⟨#[]⟩
 ·have hR:AG=(d,(U:Int),0):=by rw [HAG.out,if_neg (by simp),if_pos hS0]
  subst hS0 hR;clear HAG;go_wp2;go_ret2;exact ⟨rfl,fin.out _ HB4.out⟩
 have t3:S.toList.isEmpty=I:=by
  rw [zur,List.isEmpty_eq_false_iff];intro e;exact hS0 (ByteArray.ext (Array.toList_inj.1 e))
 have HAG2:Hid (AG=if Z≠0 then (d,0,Z) else if X.2≠0 then (X.1,0,X.2) else (X.1,((U+S.size:Nat):Int),0)):=by show _=_;rw [HAG.out,if_neg (by simp),if_neg hS0]
 clear HAG hS0
 go_upto_region 9 with (go_at_call 143;(with_reducible refine (K5.out _ HD4.out).mono ?_);rintro q w5 ⟨rfl,b5⟩)
 have HC5:=zh ((b5.block _ (zgx HC4.out)).trans HC4.out);obtain ⟨e0,e1,e2⟩:=zaP HC5.out;have HB5:=zh (HB4.out.trans (b5.mono HB4.out.size));have HD5:=zh (HD4.out.below b5);clear b5 c0 c1 c2 HC4 HB4 HD4
 by_cases hZ0:Z=0
 rotate_left
 ·have t1:(Z==0)=I:=zcw hZ0;have t2:(Z != 0)=H:=by unfold bne;rw [t1];rfl
  have hR:AG=(d,0,Z):=by rw [HAG2.out,if_pos hZ0]
  subst hR;clear hZ0 HAG2;go_wp2;go_ret2;exact ⟨rfl,fin.out _ HB5.out⟩
 subst hZ0;have HAG3:Hid (AG=if X.2≠0 then (X.1,0,X.2) else (X.1,((U+S.size:Nat):Int),0)):=by show _=_;rw [HAG2.out,if_neg (by simp)]
 clear HAG2
 go_upto_region 12 with (go_at_call 144;(with_reducible refine (K6.out _ HD5.out).mono ?_);rintro q w6 ⟨rfl,hM⟩)
 have HM:Hid (zav g L X.1 w w6):=by
  obtain ⟨L',m1,m2,m3⟩:=hM;exact ⟨L',m1,(zaw.of_below HB5.out).trans m2,(zaV.refl w L).trans m3 HB5.out.size⟩
 clear hM;obtain ⟨x1,x2⟩:=X;dsimp only at HAG3 HM
 by_cases hX0:x2=0
 rotate_left
 ·have t1:(x2==0)=I:=zcw hX0;have t2:(x2 != 0)=H:=by unfold bne;rw [t1];rfl
  have hR:AG=(x1,0,x2):=by rw [HAG3.out,if_pos hX0]
  subst hR;clear hX0 HAG3;go_wp2;go_ret2;exact ⟨rfl,HM.out⟩
 ·subst hX0;have hR:AG=(x1,((U+S.size:Nat):Int),0):=by rw [HAG3.out,if_neg (by simp)]
  have hq:((U+S.size:Nat):Int)=(U:Int)+(S.size:Int):=by omega
  rw [hq] at hR;subst hR;clear HAG3 hq;go_wp2;go_ret2;exact ⟨rfl,HM.out⟩
end
section
open Dk
def zdB (d:St) (at_ m:Nat) (v:Int) (es:List En):St×Int :=
 if onB d.n at_ m v=H then (if rgE v m 0 es≠0 then (d,rgE v m 0 es) else wrS d at_ ((rgS v m 0 es).data.toList++qg (m*64-(rgS v m 0 es).size) 0)) else (d,1)
theorem zz_list (n:Nat):(zz n).data.toList=qg n 0:=by
 unfold zz;rw [zal];rfl
theorem zng (g:Nat) (L:List Nat) (d:St) (at_ m:Nat) (v:Int) (A:Option Addr) (n c:Nat) (es:List En) (w:M) (h:Dv w g L d) (ha:at_≤1048576) (hm:m≤1048576)
 (hE:zcx w.heap.size A n es w) (hn:n≤64) (ok:∀ e∈es,e.Ok) :
 O Q 108 #[ptr g,RG at_ m v,qh A n c] w fun e w'=>e=V (f y (zdB d at_ m v es).2)∧zav g L (zdB d at_ m v es).1 w w':=by
 obtain ⟨W,hW⟩:∃ W,W=w.alloc (B (rgc at_ m v) 138):=⟨_,rfl⟩;have hB:J w.heap.size w W:=by rw [hW];exact (qe _ w).alloc (ztI _) _
 have hc:W.heap[w.heap.size]?=t (B (rgc at_ m v) 138 (0,0)):=by rw [hW];exact ztJ w _
 have hsz:(rgS v m 0 es).size≤134217728:=by
  have h1:(rcS v (pS v) (pO v) es).size≤es.length*1048663:=by
   unfold rcS
   split
   ·exact zfE v (pS v) 1048600 es fun e _=>zf2 v e
   ·exact ztO _
  rw [hE.len] at h1;unfold rgS
  split
  ·omega
  ·exact ztO _
 have hfit:rgE v m 0 es=0→(rgS v m 0 es).size≤m*64:=fun h0=>by
  unfold rgE at h0;unfold rgS
  split
  ·rename_i h1
   rw [ztZ] at h1
   have:=of_decide_eq_true h1.2
   omega
  ·exact ztO _
 have K1:=zh (zg7 g L d at_ m v W (h.below hB) ha hm);have K2:=zh (fun W=>zfC at_ v m W hm);have K3:Hid (∀ n:Nat,n≤140737488355328→∀ W,O Q 163 #[f y n] W fun q w'=>q=V (qc (zz n))∧J W.heap.size W w'):=fun n hn W=>zen n W hn;have K4:Hid (∀ W,zcx W.heap.size A n es W→O Q 142 #[RG at_ m v,f y 0,qh A n c] W fun e w'=>e=V (.tuple #[qc (rgS v m 0 es),f y (rgE v m 0 es)])∧J W.heap.size W w'):=fun W hW=>zif at_ v m 0 A n c es W hm (by omega) hW hn ok
 have K6:Hid (∀ W,Dv W g L d→rgE v m 0 es=0→O Q 144 #[RG at_ m v,ptr g,f y 0,qc (rgS v m 0 es++zz (m*64-(rgS v m 0 es).size))] W fun e w'=>e=V (f y (wrS d at_ ((rgS v m 0 es).data.toList++qg (m*64-(rgS v m 0 es).size) 0)).2)∧zav g L (wrS d at_ ((rgS v m 0 es).data.toList++qg (m*64-(rgS v m 0 es).size) 0)).1 W w'):=fun W hW h0=>by
  have hl:((rgS v m 0 es).data.toList++qg (m*64-(rgS v m 0 es).size) (0:UInt8)).length≤1099511627776:=by
   rw [zt4,zug,zuu];have h2:(rgS v m 0 es).data.size≤134217728:=hsz;have h3:m*64-(rgS v m 0 es).size≤67108864:=by omega
   exact ztL (Nat.add_le_add h2 h3) (by decide)
  have:=znx g L d at_ 0 m v ((rgS v m 0 es).data.toList++qg (m*64-(rgS v m 0 es).size) 0) W hW ha (by omega) hl
  have e1:txt ((rgS v m 0 es).data.toList++qg (m*64-(rgS v m 0 es).size) 0)=rgS v m 0 es++zz (m*64-(rgS v m 0 es).size):=by
   apply ByteArray.ext;apply Array.toList_inj.1;rw [zal,zup,zuC,zz_list]
  rw [e1] at this;exact this
 obtain ⟨FS,hFS⟩:∃ x,x=zdB d at_ m v es:=⟨_,rfl⟩;rw [←hFS];unfold zdB at hFS;obtain ⟨X,hX⟩:∃ X,X=wrS d at_ ((rgS v m 0 es).data.toList++qg (m*64-(rgS v m 0 es).size) 0):=⟨_,rfl⟩;rw [←hX] at K6 hFS;obtain ⟨E,hEq⟩:∃ E,E=rgE v m 0 es:=⟨_,rfl⟩;rw [←hEq] at K4 K6 hFS hfit;obtain ⟨S,hS⟩:∃ S,S=rgS v m 0 es:=⟨_,rfl⟩;rw [←hS] at K4 K6 hsz hfit;obtain ⟨b1,hb1⟩:∃ b,b=onB d.n at_ m v:=⟨_,rfl⟩;rw [←hb1] at K1 hFS;have HD:=zh (h.below hB);have HE:=zh ((hE.below hB).mr hB.size);have HB:=zh hB;have HC:=zh hc;have HW:=zh hW;have HFS:=zh hFS;have fin:Hid (∀ W',J w.heap.size w W'→zav g L d w W'):=fun W' hb=>⟨L,h.below hb,zaw.of_below hb,zaV.refl _ _⟩;obtain ⟨c0,c1,c2⟩:=zaP hc;clear hB hc hW h hE hX hEq hS hb1 ok hFS;unfold ptr at *
 cases b1 with
 | false =>
   obtain rfl:FS=(d,1):=HFS.out;clear HFS hfit;go_enter func108,ntmps108
   go_upto_region 1 with fail
   refine zaf (w:=W) HW.out.symm ?_
   go_wp2_with (go_at_call 139;(with_reducible refine K1.out.mono ?_);rintro q w1 ⟨rfl,b1⟩)
   go_ret;exact ⟨rfl,fin.out _ (HB.out.trans (b1.mono HB.out.size))⟩
 | true =>
   have HF2:Hid (FS=if E≠0 then (d,E) else X):=HFS.out;clear HFS;go_enter func108,ntmps108
   go_upto_region 1 with fail
   refine zaf (w:=W) HW.out.symm ?_
   go_upto_region 3 with (go_at_call 139;(with_reducible refine K1.out.mono ?_);rintro q w1 ⟨rfl,b1⟩)
   have HC1:=zh ((b1.block _ (zgx HC.out)).trans HC.out);obtain ⟨e0,e1,e2⟩:=zaP HC1.out;have HB1:=zh (HB.out.trans (b1.mono HB.out.size));have HD1:=zh (HD.out.below b1);have HE1:=zh ((HE.out.below b1).mr b1.size);clear b1 c0 c1 c2
   go_upto_region 4 with (go_at_call 142;(with_reducible refine (K4.out _ HE1.out).mono ?_);rintro q w4 ⟨rfl,b4⟩)
   have HC4:=zh ((b4.block _ (zgx HC1.out)).trans HC1.out);have HB4:=zh (HB1.out.trans (b4.mono HB1.out.size));have HD4:=zh (HD1.out.below b4);clear b4 e0 e1 e2
   by_cases hE0:E=0
   rotate_left
   ·have t1:(E==0)=I:=zcw hE0;have t2:(E != 0)=H:=by unfold bne;rw [t1];rfl
    have hR:FS=(d,E):=by rw [HF2.out,if_pos hE0]
    subst hR;clear hE0 HF2;go_wp2;go_ret;exact ⟨rfl,fin.out _ HB4.out⟩
   have hR:FS=X:=by rw [HF2.out,if_neg (fun h=>h hE0)]
   have hfs:=hfit hE0;have K66:=zh (fun W (hW:Dv W g L d)=>K6.out W hW hE0);subst hE0 hR;have K33:=zh (K3.out (m*64-S.size) (by omega));rw [show ((m*64-S.size:Nat):Int)=((m*64:Nat):Int)-(S.size:Int) by omega] at K33
   have hzs:(zz (m*64-S.size)).size≤67108864:=by
    have h1:(zz (m*64-S.size)).data.toList.length=m*64-S.size:=by rw [zz_list,zuu]
    rw [zug] at h1;have h2:(zz (m*64-S.size)).size=(zz (m*64-S.size)).data.size:=rfl;omega
   obtain ⟨Y,hY⟩:∃ Y,Y=zz (m*64-S.size):=⟨_,rfl⟩;rw [←hY] at K33 K66 hzs;obtain ⟨Z,hZ⟩:∃ Z:Int,Z=((m*64:Nat):Int):=⟨_,rfl⟩;rw [←hZ] at K2 K33;have hZ2:0≤Z∧Z≤67108864:=by omega
   have hadd:¬ 9223372036854775807<S.size+Y.size:=by omega
   have w1_:y.wrap (Z-(S.size:Int))=Z-(S.size:Int):=IntWalk.i64_in _ (by omega);clear hY hZ HF2 hfit K6 K3
   go_upto_region 6 with fail
   have HCd:Hid (w4.drew.heap[w.heap.size]?=t (B (rgc at_ m v) 138 (0,0))):=HC4.out;obtain ⟨e0,e1,e2⟩:=zaP HCd.out;have HBd:Hid (J w.heap.size w w4.drew):=HB4.out.drew;have HDd:Hid (Dv w4.drew g L d):=HD4.out.below (qe _ w4).drew
   go_region_law (first
    | (go_simp;go_at_call 164;(with_reducible refine (K2.out _).mono ?_);rintro q w5 ⟨rfl,b5⟩;have HC5:=zh ((b5.block _ (zgx HCd.out)).trans HCd.out);obtain ⟨f0,f1,f2⟩:=zaP HC5.out;have HB5:=zh (HBd.out.trans (b5.mono HBd.out.size));have HD5:=zh (HDd.out.below b5);clear b5)
    | (go_simp;go_at_call 163;(with_reducible refine (K33.out _).mono ?_);rintro q w6 ⟨rfl,b6⟩;have HC6:=zh ((b6.block _ (zgx HC5.out)).trans HC5.out);obtain ⟨q0,q1,q2⟩:=zaP HC6.out;have HB6:=zh (HB5.out.trans (b6.mono HB5.out.size));have HD6:=zh (HD5.out.below b6);clear b6)
    | (go_simp;go_at_call 144;(with_reducible refine (K66.out _ HD6.out).mono ?_);rintro q w7 ⟨rfl,hM⟩))
   all_goals
    go_wp2;go_ret;obtain ⟨L',m1,m2,m3⟩:=hM;exact ⟨rfl,L',m1,(zaw.of_below HB6.out).trans m2,(zaV.refl w L).trans m3 HB6.out.size⟩
end
section
open Dk
def zaU (d:St) (at_ u k:Nat):St×Int×Bool :=
 if d.refuses ((at_+k:Nat):Int)≠0 then (d,d.refuses ((at_+k:Nat):Int),I)
 else if (d.now (at_+k)).drop (u-k*64)=qg (64-(u-k*64)) 0 then (d,0,I)
 else ((d.write ((at_+k:Nat):Int) ((d.now (at_+k)).take (u-k*64))).1,(d.write ((at_+k:Nat):Int) ((d.now (at_+k)).take (u-k*64))).2,H)
theorem zj4 (l:List UInt8) (k:Nat) (hk:k≤l.length):(txt l).extract k l.length=txt (l.drop k):=by
 apply ByteArray.ext;apply Array.toList_inj.1;rw [zuB,zuJ,zal,zal,zuO,zt9 (by rw [zuh];omega)]
theorem zpK (g:Nat) (L:List Nat) (d:St) (b3 b4 b5 b7 at_ u k:Nat) (m v:Int) (b:Bool) (w:M) (h:Dv w g L d) (h3:w.heap[b3]?=t (B #[ptr g] 24 (0,0))) (h4:w.heap[b4]?=t (B (rgc at_ m v) 138 (0,0)))
 (h5:w.heap[b5]?=t (B #[f y u] 3 (0,0))) (h7:w.heap[b7]?=t (B #[qf b] 4 (0,0))) (n3:b3≠b7) (n4:b4≠b7) (hL:b7∉L) (ha:at_≤1048576) (hu:u≤67108864) (hk:k≤1048576) (huk:u≤k*64+63) :
 O Q 187 #[f y k,ptr b3,ptr b4,ptr b5,ptr b7] w fun e w'=>e=V (f y (zaU d at_ u k).2.1)∧∃ L',Dv w' g L' (zaU d at_ u k).1∧zaw (b7 :: L) w w'∧zaV w L L'∧w'.heap[b7]?=t (B #[qf (b||(zaU d at_ u k).2.2)] 4 (0,0))∧b7∉L':=by
 have c3:w.cell? ⟨b3,0,C⟩=t (ptr g):=zcr w b3 0 _ 24 (0,0) h3;have c4:w.cell? ⟨b4,0,C⟩=t (f y at_):=zcr w b4 0 _ 138 (0,0) h4;have KR:=zh (zd6 g L d ((at_+k:Nat):Int) w h);have i1:((at_+k:Nat):Int)=(at_:Int)+(k:Int):=by omega
 have hb7:b7<w.heap.size:=(zgx h7);have H3:=zh h3;have H4:=zh h4;have H5:=zh h5;have H7:=zh h7;have HD:=zh h;obtain ⟨WS,hWS⟩:∃ x,x=zaU d at_ u k:=⟨_,rfl⟩;rw [←hWS];unfold zaU at hWS;have fin:Hid (∀ W',J w.heap.size w W'→∃ L',Dv W' g L' d∧zaw (b7 :: L) w W'∧zaV w L L'∧W'.heap[b7]?=t (B #[qf (b||false)] 4 (0,0))∧b7∉L'):=fun W' hb=>⟨L,h.below hb,zaw.of_below hb,zaV.refl _ _,by rw [zuH];exact (hb.block _ hb7).trans h7,hL⟩
 by_cases hr:d.refuses ((at_+k:Nat):Int)=0
 rotate_left
 ·have e1:d.readS ((at_+k:Nat):Int)=[]:=by unfold St.readS;rw [if_neg hr]
  rw [if_pos hr] at hWS;obtain ⟨Z,hZ⟩:∃ Z,Z=d.refuses ((at_+k:Nat):Int):=⟨_,rfl⟩;rw [e1,←hZ,i1] at KR;rw [←hZ] at hWS hr;subst hWS;have t1:(Z==0)=I:=zcw hr;have t2:(Z != 0)=H:=by unfold bne;rw [t1];rfl
  clear hr hZ e1 i1 h h3 h4 h5 h7;unfold ptr at *;go_enter func187,ntmps187
  go_wp2_with (go_at_call 181;(with_reducible refine KR.out.mono ?_);rintro q w1 ⟨rfl,b1⟩)
  go_ret;exact ⟨rfl,fin.out _ b1⟩
 have e1:d.readS ((at_+k:Nat):Int)=d.now (at_+k):=by unfold St.readS;rw [if_pos hr,ztV]
 rw [if_neg (fun h=>h hr)] at hWS;rw [e1,hr,i1] at KR;have hn64:(d.now (at_+k)).length=64:=h.1.now _;obtain ⟨st,hst⟩:∃ st,st=u-k*64:=⟨_,rfl⟩;have hstI:max (0:Int) ((u:Int)-(k:Int)*64)=(st:Int):=by omega
 have hst63:st≤63:=by omega
 rw [←hst] at hWS;have KW:=zh (fun (W:M) (hW:Dv W g L d)=>zea g L d ((at_+k:Nat):Int) ((d.now (at_+k)).take st) W hW);rw [i1] at KW hWS;have hx1:=zj4 (d.now (at_+k)) st (by omega);have hx2:=zeW (d.now (at_+k)) st;rw [hn64] at hx1;have hs:(txt (d.now (at_+k))).size=64:=by rw [zah];exact hn64
 obtain ⟨S,hS⟩:∃ S,S=txt (d.now (at_+k)):=⟨_,rfl⟩;rw [←hS] at KR hx1 hx2 hs;have KZ:=zh (fun (W:M)=>zen (64-st) W (by omega));rw [show ((64-st:Nat):Int)=64-(st:Int) by omega] at KZ;have hzz:zz (64-st)=txt (qg (64-st) 0):=rfl
 have hbeq:∀ a c:List UInt8,((txt a).toList==(txt c).toList)=decide (a=c):=fun a c=>by
  rw [zur,zur,zal,zal]
  by_cases h:a=c
  ·rw [h];simp
  ·rw [ztM h];exact beq_eq_false_iff_ne.2 h
 have hcmp:=hbeq ((d.now (at_+k)).drop st) (qg (64-st) 0);rw [←hzz] at hcmp;rw [←hx2] at KW;obtain ⟨TD,hTD⟩:∃ x,x=txt ((d.now (at_+k)).drop st):=⟨_,rfl⟩;obtain ⟨TZ,hTZ⟩:∃ x,x=zz (64-st):=⟨_,rfl⟩;rw [←hTD] at hx1 hcmp;rw [←hTZ] at hcmp KZ;have q1:(st:Int)≤64:=by omega
 have q2:(0:Int)≤(st:Int):=by omega
 have q3:(st:Int)≤(S.size:Int):=by omega
 have hx1s:S.extract st S.size=TD:=by rw [hs];exact hx1
 have w1_:y.wrap ((S.size:Int)-(st:Int))=64-(st:Int):=by rw [hs];exact IntWalk.i64_in _ (by omega)
 have w2_:y.wrap ((64:Int)-(st:Int))=64-(st:Int):=IntWalk.i64_in _ (by omega);have w3_:y.wrap ((at_:Int)+(k:Int))=(at_:Int)+(k:Int):=IntWalk.i64_in _ (by omega);obtain ⟨X,hX⟩:∃ X,X=d.write ((at_:Int)+(k:Int)) ((d.now (at_+k)).take st):=⟨_,rfl⟩;rw [←hX] at KW hWS;obtain ⟨TT,hTT⟩:∃ x,x=S.extract 0 st:=⟨_,rfl⟩;rw [←hTT] at KW;have hx0:S.extract 0 st=TT:=hTT.symm;have HWS:=zh hWS;have HCMP:=zh hcmp;have c5:w.cell? ⟨b5,0,C⟩=t (f y u):=zcr w b5 0 _ 3 (0,0) h5;clear hTD hTZ hX hTT hS hzz hbeq hcmp hWS hr e1 hst h h3 h4 h5 h7 hn64 i1 hx2;unfold ptr at *;go_enter func187,ntmps187
 go_upto_region 4 with (go_at_call 181;(with_reducible refine KR.out.mono ?_);rintro q w1 ⟨rfl,b1⟩)
 have HB1:=zh b1;have H31:=zh ((b1.block _ (zgx H3.out)).trans H3.out);have H41:=zh ((b1.block _ (zgx H4.out)).trans H4.out);have H71:=zh ((b1.block _ (zgx H7.out)).trans H7.out);have HD1:=zh (HD.out.below b1);have d5:w1.cell? ⟨b5,0,C⟩=t (f y u):=zcr w1 b5 0 _ 3 (0,0) ((b1.block _ (zgx H5.out)).trans H5.out);clear b1 c3 c4 c5
 go_upto_region 5 with fail
 by_cases hz:(d.now (at_+k)).drop st=qg (64-st) 0
 ·have hR:WS=(d,0,I):=by rw [HWS.out,if_pos hz]
  subst hR;have ht:(TD.toList==TZ.toList)=H:=by rw [HCMP.out,ztN hz]
  clear hz HWS HCMP d5
  go_region_law (go_simp;go_at_call 163;(with_reducible refine (KZ.out _).mono ?_);rintro q w2 ⟨rfl,b2⟩)
  all_goals
   have HB2:=zh (HB1.out.drew.trans (b2.mono HB1.out.size));clear b2;go_wp2;go_ret;refine ⟨rfl,?_⟩;have hf:=fin.out _ HB2.out;rw [zuH] at hf;exact hf
 ·have hR:WS=(X.1,X.2,H):=by rw [HWS.out,if_neg hz]
  subst hR;have ht:(TD.toList==TZ.toList)=I:=by rw [HCMP.out,ztM hz]
  clear hz HWS HCMP d5
  go_region_law (go_simp;go_at_call 163;(with_reducible refine (KZ.out _).mono ?_);rintro q w2 ⟨rfl,b2⟩)
  all_goals
   have HB2:=zh (HB1.out.drew.trans (b2.mono HB1.out.size));have hB12:J w1.heap.size w1 w2:=((qe _ w1).drew).trans b2;have H32:w2.heap[b3]?=t (B #[.pointer (t ⟨g,0,C⟩)] 24 (0,0)):=(hB12.block _ (zgx H31.out)).trans H31.out;have H42:w2.heap[b4]?=t (B (rgc at_ m v) 138 (0,0)):=(hB12.block _ (zgx H41.out)).trans H41.out;have H72:w2.heap[b7]?=t (B #[qf b] 4 (0,0)):=(hB12.block _ (zgx H71.out)).trans H71.out;have hfz:w2.frozen? ⟨b7,0,C⟩=I:=zt6 H72 0;have hc7:w2.cell? ⟨b7,0,C⟩=t (qf b):=zcr w2 b7 0 _ 4 (0,0) H72;have HD2:=zh (HD1.out.below hB12);obtain ⟨W8,hW8⟩:∃ W8,W8=w2.setCell ⟨b7,0,C⟩ (qf H):=⟨_,rfl⟩;have H38:Hid (W8.heap[b3]?=t (B #[.pointer (t ⟨g,0,C⟩)] 24 (0,0))):=by show _=_;rw [hW8,ztX _ _ _ _ n3];exact H32
   have H48:Hid (W8.heap[b4]?=t (B (rgc at_ m v) 138 (0,0))):=by show _=_;rw [hW8,ztX _ _ _ _ n4];exact H42
   have H78:Hid (W8.heap[b7]?=t (B #[qf H] 4 (0,0))):=by show _=_;rw [hW8];exact zat H72 0 _
   have HD8:Hid (Dv W8.drew g L d):=HD2.out.of_heap (fun j hj=>by rw [hW8];exact ztX _ _ _ _ (fun e=>hL (by rw [←show j=b7 from e];exact hj)))
   have HK8:Hid (zaw (b7 :: L) w W8.drew):=by
    have hk:zaw (b7 :: L) w2 W8:=by rw [hW8];exact zaw.setCell (p:=⟨b7,0,C⟩) (by simp) _
    have:=(zaw.of_below (L:=b7 :: L) HB2.out).trans hk
    exact ⟨this.os,this.tape,this.output,this.size,this.block⟩
   have HS8:Hid (w.heap.size≤W8.drew.heap.size):=HK8.out.size;have HN7:Hid (b7<W8.heap.size):=(zgx H78.out);clear hB12 H32 H42 H72 b2
   go_upto_region 8 with fail
   refine zaf (w:=W8) hW8.symm ?_;have f3:W8.drew.cell? ⟨b3,0,C⟩=t (.pointer (t ⟨g,0,C⟩)):=zcr W8.drew b3 0 _ 24 (0,0) H38.out;have f4:W8.drew.cell? ⟨b4,0,C⟩=t (f y at_):=zcr W8.drew b4 0 _ 138 (0,0) H48.out;clear hfz hc7 hW8
   go_region_law (go_simp;go_at_call 69;(with_reducible refine (KW.out _ HD8.out).mono ?_);rintro q w9 ⟨rfl,hM⟩)
   all_goals
    go_wp2;go_ret;obtain ⟨L',m1,m2,m3⟩:=hM;refine ⟨rfl,L',m1,HK8.out.trans (m2.mono (fun x hx=>by simp [hx])),(zaV.refl w L).trans m3 HS8.out,?_,?_⟩
    ·exact (m2.block _ HN7.out hL).trans H78.out
    ·intro hm7;rcases m3 _ hm7 with h|h
     ·exact hL h
     ·have:=HN7.out
      have h':W8.heap.size≤b7:=h;omega
end
end Go.Proofs.YtidndekacnmihaaGreat
