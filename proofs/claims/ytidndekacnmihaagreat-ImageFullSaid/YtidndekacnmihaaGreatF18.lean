/- Parts of a proof. -/
import Derived.Test.YtidndekacnmihaaGreatF13
import Derived.Test.YtidndekacnmihaaGreatF17
set_option linter.unusedVariables false
set_option linter.unusedSimpArgs false
set_option maxHeartbeats 8000000
set_option maxRecDepth 100000
namespace Go.Proofs.YtidndekacnmihaaGreat
open Go.RowKit
section
open Dk Vi
def pS (v:Int) (e:En):ByteArray:=rfP v (D.eOv v e) (D.ePv v e)
def pO (v:Int) (e:En):Bool:=D.eOv v e&&pkO v (D.ePv v e)
theorem zmI (v:Int) (es:List En) (ok:∀ e∈es,e.Ok):zrW 204 v (pS v) (pO v) es:=fun e he W=>D.zrZ v e W (ok e he)
theorem zeR (v:Int) (es:List En) (ok:∀ e∈es,e.Ok):zrW 174 v (pS v) (pO v) es:=fun e he W=>D.zqR v e W (ok e he)
theorem zfA (v:Int) (e:En):(pS v e).size≤1048600:=by
 unfold pS rfP
 split
 ·exact zgq _ _
 ·exact zsE _
structure zep (v:Int) (e:En):Prop where
 ok:e.Ok
 o:pO v e=true
 pk:pkO v (D.ePv v e)=true
 s:pS v e=pack v (D.ePv v e)
theorem ziT {v:Int} {e:En} (hv:v=1∨v=2) (ok:e.Ok) (hr:zaJ e=true) (hm:v=1→zdq e=true):zep v e:=by
 have hb:(D.ePv v e).size≤1048576:=by
  unfold D.ePv
  split
  ·exact D.zgp e ok
  ·exact D.zgo e ok
 have hk:pkO v (D.ePv v e)=true:=zo2 hv hb
 have ho:D.eOv v e=true:=by
  rcases hv with rfl|rfl
  ·exact hm rfl
  ·exact hr
 exact ⟨ok,by unfold pO;rw [ho,hk];rfl,hk,by unfold pS rfP pkS;rw [if_pos ho,if_pos hk]⟩
end
section
open Dk
abbrev RG (at_ many v:Int):Value:=.agg #[.int .i64 at_,.int .i64 many,.int .i64 v]
abbrev rgc (at_ many v:Int):Array Value:=#[.int .i64 at_,.int .i64 many,.int .i64 v]
theorem zfz (at_ v:Int) (m:Nat) (w:World) (hm:m≤1048576):Calls Tryz.prog 164 #[RG at_ m v] w fun e w'=>e=.returned (.int .i64 (m*64:Nat))∧Below w.heap.size w w':=by
 have hB:=(Below.refl w.heap.size w).alloc (zsy _) (.cells (rgc at_ m v) 138);have e1:((m*64:Nat):Int)=(m:Int)*64:=by omega
 rw [e1];go_enter Tryz.func164,Tryz.ntmps164;go_wp2;go_ret;exact ⟨rfl,hB⟩
def zbx (m:Nat) (u:Int):Bool:=decide (0≤u∧u≤((m*64:Nat):Int))
theorem zjH (at_ v u:Int) (m:Nat) (w:World) (hm:m≤1048576):Calls Tryz.prog 140 #[RG at_ m v,.int .i64 u] w fun e w'=>e=.returned (.bool (zbx m u))∧Below w.heap.size w w':=by
 have hB:=(Below.refl w.heap.size w).alloc (zsy _) (.cells (rgc at_ m v) 138);have HB:=zh hB;have K:=zh (fun W=>zfz at_ v m W hm);obtain ⟨Z,hZ⟩:∃ Z:Int,Z=((m*64:Nat):Int):=⟨_,rfl⟩;unfold zbx;rw [←hZ] at K ⊢;clear hB hZ
 by_cases h0:0≤u
 ·have t0:decide (0≤u)=true:=zsD h0;have e1:decide (0≤u∧u≤Z)=decide (u≤Z):=by rw [decide_eq_decide];omega
  rw [e1];clear e1;go_enter Tryz.func140,Tryz.ntmps140
  go_wp2_with (go_at_call 164;(with_reducible refine (K.out _).mono ?_);rintro q w1 ⟨rfl,b1⟩)
  go_ret;exact ⟨rfl,HB.out.trans (b1.mono HB.out.size)⟩
 ·have t0:decide (0≤u)=false:=zsC h0;have e1:decide (0≤u∧u≤Z)=false:=zsC (by omega);rw [e1];clear e1;go_enter Tryz.func140,Tryz.ntmps140
  go_wp2_with (go_at_call 164;(with_reducible refine (K.out _).mono ?_);rintro q w1 ⟨rfl,b1⟩)
  go_ret;exact ⟨rfl,HB.out⟩
def onB (n at_ m:Nat) (v:Int):Bool:=decide (1≤m)&&knB v&&decide ((m:Int)≤(n:Int)-at_)
theorem zgW (g:Nat) (L:List Nat) (d:St) (at_ m:Nat) (v:Int) (w:World) (h:Dv w g L d) (ha:at_≤1048576) (hm:m≤1048576) :
 Calls Tryz.prog 139 #[RG at_ m v,ptr g] w fun e w'=>e=.returned (.bool (onB d.n at_ m v))∧Below w.heap.size w w':=by
 have hB:=(Below.refl w.heap.size w).alloc (zsy _) (.cells (rgc at_ m v) 138);have HB:Hid (∀ k,Below w.heap.size w ((w.alloc (.cells (rgc at_ m v) 138)).drewN k)):=fun k=>below_drewN hB k;have hc:=zsz w (.cells (rgc at_ m v) 138);have n2:=h.1.n2;have K1:Hid (∀ W,Calls Tryz.prog 195 #[.int .i64 v] W fun q w'=>q=.returned (.bool (knB v))∧w'=W):=fun W=>(zhY v W).mono fun q w' h=>⟨h.1,h.2.symm⟩;have K2:Hid (∀ W,Dv W g L d→Calls Tryz.prog 39 #[ptr g] W fun q w'=>q=.returned (.int .i64 d.n)∧w'=W):=fun W hW=>(zdt g L d W hW).mono fun q w' h=>⟨h.1,h.2.symm⟩;have HD:Hid (∀ k,Dv ((w.alloc (.cells (rgc at_ m v) 138)).drewN k) g L d):=fun k=>h.below (below_drewN ((Below.refl w.heap.size w).alloc (zsy _) (.cells (rgc at_ m v) 138)) k);obtain ⟨N,hN⟩:∃ N,N=d.n:=⟨_,rfl⟩;rw [←hN] at K2 n2 ⊢;clear hB hN h;have t0:decide (0≤(at_:Int))=true:=zsD (by omega);have c0:(w.alloc (.cells (rgc at_ m v) 138)).drew.cell? ⟨w.heap.size,0,none⟩=some (.int .i64 at_):=zcr _ _ 0 _ 138 (0,0) hc;have c1:(w.alloc (.cells (rgc at_ m v) 138)).drew.cell? ⟨w.heap.size,1,none⟩=some (.int .i64 m):=zcr _ _ 1 _ 138 (0,0) hc;have c2:(w.alloc (.cells (rgc at_ m v) 138)).drew.cell? ⟨w.heap.size,2,none⟩=some (.int .i64 v):=zcr _ _ 2 _ 138 (0,0) hc;clear hc
 by_cases h1:1≤m
 ·have t1:decide (1≤(m:Int))=true:=zsD (by omega);have e0:onB N at_ m v=(knB v&&decide ((m:Int)≤(N:Int)-at_)):=by unfold onB;rw [zsD h1,zsY]
  rw [e0];clear e0
  cases hk:knB v with
  | true =>
    rw [hk] at K1;rw [zsY]
    cases h3:decide ((m:Int)≤(N:Int)-at_) with
    | true =>
      go_enter Tryz.func139,Tryz.ntmps139
      go_upto_region 1 with fail
      go_quiet (first|(go_at_call 195;exact Calls.quiet_of_same (K1.out _))|(go_at_call 39;exact Calls.quiet_of_same (K2.out _ (HD.out _))))
      go_wp2;go_ret;exact ⟨rfl,HB.out _⟩
    | false =>
      go_enter Tryz.func139,Tryz.ntmps139
      go_upto_region 1 with fail
      go_quiet (first|(go_at_call 195;exact Calls.quiet_of_same (K1.out _))|(go_at_call 39;exact Calls.quiet_of_same (K2.out _ (HD.out _))))
      go_wp2;go_ret;exact ⟨rfl,HB.out _⟩
  | false =>
    rw [hk] at K1;rw [ztd];go_enter Tryz.func139,Tryz.ntmps139
    go_upto_region 1 with fail
    go_quiet (first|(go_at_call 195;exact Calls.quiet_of_same (K1.out _))|(go_at_call 39;exact Calls.quiet_of_same (K2.out _ (HD.out _))))
    go_wp2;go_ret;exact ⟨rfl,HB.out _⟩
 ·have t1:decide (1≤(m:Int))=false:=zsC (by omega);have e0:onB N at_ m v=false:=by unfold onB;rw [zsC h1];rfl
  rw [e0];clear e0;go_enter Tryz.func139,Tryz.ntmps139
  go_upto_region 1 with fail
  go_quiet (first|(go_at_call 195;exact Calls.quiet_of_same (K1.out _))|(go_at_call 39;exact Calls.quiet_of_same (K2.out _ (HD.out _))))
  go_wp2;go_ret;exact ⟨rfl,HB.out _⟩
end
section
open Dk
theorem zh4 (F:Nat) (hF:F=197∨F=185) (a b c:Value) (fro til:Nat) (P:Nat→World→Prop) (R:Int→World→Prop) (w:World) (hft:fro≤til) (hto:til≤1099511627776) (h0:P fro w)
 (hs:∀ k w1,fro≤k→k<til→P k w1→Calls Tryz.prog F #[.int .i64 k,a,b,c] w1 fun e w'=>∃ z:Int,e=.returned (.int .i64 z)∧(z=0→P (k+1) w')∧(z≠0→R z w')) :
 Calls Tryz.prog 184 #[.int .i64 fro,.int .i64 til,.func (.func F) #[] #[a,b,c]] w fun e w'=>∃ z:Int,e=.returned (.int .i64 z)∧(z=0→P til w')∧(z≠0→R z w'):=by
 have HS:=zh hs;have H0:=zh h0;clear hs h0;rcases hF with rfl|rfl
 all_goals
  go_enter Tryz.func184,Tryz.ntmps184;go_wp2
  go_loopw [7] (fun i wr=>∃ k:Nat,i=.int .i64 k∧fro≤k∧k≤til∧Hid (P k wr)) (fun i _=>til-(Go.RowKit.intOf i).toNat)
  case atStart=>exact ⟨fro,rfl,zsy _,hft,H0⟩
  case round =>
   obtain ⟨k,rfl,hk1,hk2,hP⟩:=hrel
   by_cases hlt:k<til
   ·have t1:decide ((k:Int)<(til:Int))=true:=zsD (by omega);have K:=zh (HS.out k wr hk1 hlt hP.out)
    go_upto_region 5 with fail
    refine K.out.mono ?_;rintro q w1 ⟨z,rfl,hz0,hz1⟩;clear K hP
    by_cases hz:z=0
    ·have Z0:Hid (P (k+1) w1):=hz0 hz;clear hz0 hz1;subst hz;go_wp2
     go_roundw
     case rel=>exact ⟨k+1,by go_num,by omega,by omega,Z0⟩
     case measure=>simp [Go.RowKit.intOf];omega
    ·have Z1:=zh (hz1 hz);clear hz0 hz1;have e1:(z==0)=false:=zcG hz;have e2:(z != 0)=true:=by unfold bne;rw [e1];rfl
     go_wp2;go_ret;exact ⟨z,rfl,fun h=>absurd h hz,fun _=>Z1.out⟩
   ·have hkt:k=til:=by omega
    subst hkt;have t1:decide ((k:Int)<(k:Int))=false:=zsC (by omega);go_wp2;go_ret;exact ⟨0,rfl,fun _=>hP.out,fun h=>absurd rfl h⟩
end
section
open Dk
theorem zqF (g:Nat) (L:List Nat) (d:St) (b5 b9 b7 first k:Nat) (l:List UInt8) (w:World) (h:Dv w g L d) (h5:w.heap[b5]?=some (.cells #[ptr g] 24 (0,0))) (h9:w.heap[b9]?=some (.cells #[.int .i64 first] 3 (0,0)))
 (h7:w.heap[b7]?=some (.cells #[.string (txt l)] 9 (0,0))) (hk:k*64≤l.length) (hl:l.length≤1099511627776) (hf:first≤1099511627776) :
 Calls Tryz.prog 197 #[.int .i64 k,ptr b5,ptr b9,ptr b7] w fun e w'=>e=.returned (.int .i64 (d.write ((first+k:Nat):Int) ((l.drop (k*64)).take 64)).2)∧zav g L (d.write ((first+k:Nat):Int) ((l.drop (k*64)).take 64)).1 w w':=by
 have c5:w.drew.cell? ⟨b5,0,none⟩=some (ptr g):=zcr w.drew b5 0 _ 24 (0,0) h5;have c9:w.drew.cell? ⟨b9,0,none⟩=some (.int .i64 first):=zcr w.drew b9 0 _ 3 (0,0) h9;have c7:w.drew.cell? ⟨b7,0,none⟩=some (.string (txt l)):=zcr w.drew b7 0 _ 9 (0,0) h7;have hd:Dv w.drew g L d:=h.below (Below.refl _ w).drew;have KW:=zh (zd3 g L d ((first+k:Nat):Int) ((l.drop (k*64)).take 64) w.drew hd);rw [show ((first+k:Nat):Int)=(first:Int)+k by omega] at KW ⊢;obtain ⟨D,hD⟩:∃ D,D=d.write ((first:Int)+k) ((l.drop (k*64)).take 64):=⟨_,rfl⟩;rw [←hD] at KW ⊢;have hx:=zkR l (k*64) (min (k*64+64) l.length) rfl;obtain ⟨p,hp⟩:∃ p,p=(l.drop (k*64)).take 64:=⟨_,rfl⟩;rw [←hp] at KW hx;have hz:=zah l;obtain ⟨S,hS⟩:∃ S,S=txt l:=⟨_,rfl⟩;rw [←hS] at c7 hx hz;obtain ⟨n,hn⟩:∃ n,n=l.length:=⟨_,rfl⟩;rw [←hn] at hx hk hl hz;obtain ⟨m,hm⟩:∃ m,m=min (k*64+64) n:=⟨_,rfl⟩;rw [←hm] at hx;have hmI:min ((k:Int)*64+64) (S.size:Int)=(m:Int):=by rw [hz,hm];omega
 have hmI2:min ((k:Int)*64+64) (n:Int)=(m:Int):=by rw [hm];omega
 have hmn:m≤n:=by omega
 have hkm:k*64≤m:=by omega
 have q1:(m:Int)≤(n:Int):=by omega
 have q2:(k:Int)*64≤(m:Int):=by omega
 have q0:(0:Int)≤(k:Int)*64:=by omega
 have q3:((k:Int)*64).toNat=k*64:=by omega
 have w1:IntKind.i64.wrap ((k:Int)*64+64)=(k:Int)*64+64:=IntWalk.i64_in _ (by omega);have w2:IntKind.i64.wrap ((first:Int)+k)=(first:Int)+k:=IntWalk.i64_in _ (by omega);clear hD hp hS hn hm h h5 h9 h7 hd;unfold ptr at *;go_enter Tryz.func197,Tryz.ntmps197
 go_upto_region 2 with fail
 go_region_law (go_simp;go_at_call 69;(with_reducible refine KW.out.mono ?_);rintro q w5 ⟨rfl,hM⟩)
 all_goals
  go_wp2;go_ret;obtain ⟨L',m1,m2,m3⟩:=hM;exact ⟨rfl,L',m1,(zau.of_below (Below.refl _ w).drew).trans m2,m3⟩
end
section
open Dk
def wrS (d:St) (first:Nat) (l:List UInt8):St×Int:=wrL first l ((l.length+63) / 64) 0 d
theorem zmO (g:Nat) (L:List Nat) (d:St) (at_ from_:Nat) (m v:Int) (l:List UInt8) (w:World) (h:Dv w g L d) (ha:at_≤1048576) (hf:from_≤1099511627776) (hl:l.length≤1099511627776) :
 Calls Tryz.prog 144 #[RG at_ m v,ptr g,.int .i64 from_,.string (txt l)] w fun e w'=>e=.returned (.int .i64 (wrS d (at_+from_ / 64) l).2)∧zav g L (wrS d (at_+from_ / 64) l).1 w w':=by
 obtain ⟨T,hT⟩:∃ T,T=wrS d (at_+from_ / 64) l:=⟨_,rfl⟩;rw [←hT];obtain ⟨N,hN⟩:∃ N,N=(l.length+63) / 64:=⟨_,rfl⟩;have hz:=zah l;have KS:=zh (fun (W:World)=>zbL l.length W (by omega));rw [←hN] at KS;have hN2:N≤1099511627776:=by omega
 have KEY:Hid (∀ W,W=(((w.alloc (.cells (rgc at_ m v) 138)).alloc (.cells #[ptr g] 24)).alloc (.cells #[.string (txt l)] 9)).alloc (.cells #[.int .i64 (at_+from_ / 64:Nat)] 3) →
  Calls Tryz.prog 184 #[.int .i64 0,.int .i64 N,.func (.func 197) #[] #[ptr (w.heap.size+1),ptr (w.heap.size+3),ptr (w.heap.size+2)]] W fun e w'=>e=.returned (.int .i64 T.2)∧zav g L T.1 w w'):=fun W hW=>by
  have hb:Below w.heap.size w W:=by
   rw [hW];exact ((((Below.refl _ w).alloc (zsy _) _).alloc (by simp) _).alloc (by simp;omega) _).alloc (by simp;omega) _
  have hs:W.heap.size=w.heap.size+4:=by rw [hW];simp
  have h5:W.heap[w.heap.size+1]?=some (.cells #[ptr g] 24 (0,0)):=by
   rw [hW,zsG _ _ _ (by simp),zsG _ _ _ (by simp)]
   have:=zsz (w.alloc (.cells (rgc at_ m v) 138)) (.cells #[ptr g] 24)
   rwa [zsI] at this
  have h7:W.heap[w.heap.size+2]?=some (.cells #[.string (txt l)] 9 (0,0)):=by
   rw [hW,zsG _ _ _ (by simp)]
   have:=zsz ((w.alloc (.cells (rgc at_ m v) 138)).alloc (.cells #[ptr g] 24)) (.cells #[.string (txt l)] 9)
   rwa [zsI,zsI] at this
  have h9:W.heap[w.heap.size+3]?=some (.cells #[.int .i64 (at_+from_ / 64:Nat)] 3 (0,0)):=by
   rw [hW]
   have:=zsz (((w.alloc (.cells (rgc at_ m v) 138)).alloc (.cells #[ptr g] 24)).alloc (.cells #[.string (txt l)] 9)) (.cells #[.int .i64 (at_+from_ / 64:Nat)] 3)
   rwa [zsI,zsI,zsI] at this
  have hLw:=h.lt;have hD:=h.below hb;have hkW:zau L w W:=zau.of_below hb
  refine (zh4 197 (.inl rfl) (ptr (w.heap.size+1)) (ptr (w.heap.size+3)) (ptr (w.heap.size+2)) 0 N
   (fun k w1=>∃ L' d',Dv w1 g L' d'∧zau L W w1∧zaT W L L'∧wrL (at_+from_ / 64) l (N-k) k d'=T) (fun z w1=>z=T.2∧zav g L T.1 w w1) W (zsE _) hN2 ⟨L,d,hD,zau.refl _ _,zaT.refl _ _,by rw [hT];unfold wrS;rw [hN];rfl⟩ ?_).mono ?_
  ·rintro k w1 _ hk ⟨L1,d1,hD1,hK1,hF1,hw1⟩;have hk64:k*64≤l.length:=by omega
   have hblk:∀ j,w.heap.size≤j→j<W.heap.size→w1.heap[j]?=W.heap[j]?:=fun j h1 h2=>hK1.block j h2 fun hm=>by have:=hLw j hm;omega
   have hst:wrL (at_+from_ / 64) l (N-k) k d1=if (d1.write ((at_+from_ / 64+k:Nat):Int) ((l.drop (k*64)).take 64)).2=0 then wrL (at_+from_ / 64) l (N-(k+1)) (k+1) (d1.write ((at_+from_ / 64+k:Nat):Int) ((l.drop (k*64)).take 64)).1 else d1.write ((at_+from_ / 64+k:Nat):Int) ((l.drop (k*64)).take 64):=by
    rw [show N-k=(N-(k+1))+1 by omega];rfl
   rw [hw1] at hst;refine (zqF g L1 d1 (w.heap.size+1) (w.heap.size+3) (w.heap.size+2) (at_+from_ / 64) k l w1 hD1 ((hblk _ (by omega) (by omega)).trans h5) ((hblk _ (by omega) (by omega)).trans h9) ((hblk _ (by omega) (by omega)).trans h7) hk64 hl (by omega)).mono ?_;rintro e w2 ⟨rfl,L2,hD2,hK2,hF2⟩;have hK3:zau L W w2:=hK1.trans' hK2 hF1;have hF3:zaT W L L2:=hF1.trans hF2 hK1.size;refine ⟨_,rfl,fun hz=>?_,fun hz=>?_⟩
   ·rw [if_pos hz] at hst;exact ⟨L2,_,hD2,hK3,hF3,hst.symm⟩
   ·rw [if_neg hz] at hst;rw [hst];exact ⟨rfl,L2,hD2,hkW.trans hK3,fun k hk=>(hF3 k hk).elim .inl (fun h=>.inr (zsB hb.size h))⟩
  ·rintro e w1 ⟨z,rfl,hz0,hz1⟩
   by_cases hz:z=0
   ·obtain ⟨L1,d1,hD1,hK1,hF1,hw1⟩:=hz0 hz;rw [Nat.sub_self] at hw1;have hT2:T=(d1,0):=hw1.symm;rw [hT2];exact ⟨by rw [hz],L1,hD1,hkW.trans hK1,fun k hk=>(hF1 k hk).elim .inl (fun h=>.inr (zsB hb.size h))⟩
   ·obtain ⟨h1,h2⟩:=hz1 hz;exact ⟨by rw [h1],h2⟩
 have hi1:((at_+from_ / 64:Nat):Int)=(at_:Int)+(from_:Int) / 64:=by omega
 rw [hi1] at KEY;obtain ⟨S,hS⟩:∃ S,S=txt l:=⟨_,rfl⟩;rw [←hS] at KEY hz ⊢;clear hT hN hS h;obtain ⟨n,hn⟩:∃ n,n=l.length:=⟨_,rfl⟩;rw [←hn] at KS hz hl;clear hn hi1;unfold ptr at *;go_enter Tryz.func144,Tryz.ntmps144
 go_upto_region 2 with fail
 go_wp2_with (first|(go_at_call 196;(with_reducible refine (KS.out _).mono ?_);rintro q w1 ⟨rfl,rfl⟩)|(go_at_call 184;(with_reducible refine (KEY.out _ rfl).mono ?_);rintro q w1 ⟨rfl,hM⟩))
 go_ret;exact ⟨rfl,hM⟩
end
section
open Dk
def rgS (v:Int) (m u:Nat) (es:List En):ByteArray:=if rcO v (pO v) es&&decide (((rcS v (pS v) (pO v) es).size:Int)≤((m*64:Nat):Int)-u) then rcS v (pS v) (pO v) es else ⟨#[]⟩
def rgE (v:Int) (m u:Nat) (es:List En):Int:=if rcO v (pO v) es then (if ((rcS v (pS v) (pO v) es).size:Int)≤((m*64:Nat):Int)-u then 0 else 4) else 1
theorem zhZ (at_ v:Int) (m u:Nat) (A:Option Addr) (n c:Nat) (es:List En) (w:World) (hm:m≤1048576) (hu:u≤1099511627776) (hE:zcJ w.heap.size A n es w) (hn:n≤64) (ok:∀ e∈es,e.Ok) :
 Calls Tryz.prog 142 #[RG at_ m v,.int .i64 u,.slice A n c] w fun e w'=>e=.returned (.tuple #[.string (rgS v m u es),.int .i64 (rgE v m u es)])∧Below w.heap.size w w':=by
 obtain ⟨W,hW⟩:∃ W,W=w.alloc (.cells (rgc at_ m v) 138):=⟨_,rfl⟩;have hB:Below w.heap.size w W:=by rw [hW];exact (Below.refl _ w).alloc (zsy _) _
 have hc:W.heap[w.heap.size]?=some (.cells (rgc at_ m v) 138 (0,0)):=by rw [hW];exact zsz w _
 have K1:=zh (zfD v (pS v) (pO v) A n c es W ((hE.below hB).mr hB.size) hn (fun e _=>zsB (zfA v e) (by omega)) (zmI v es ok));have K2:=zh (fun W=>zfz at_ v m W hm)
 have hsz:(rcS v (pS v) (pO v) es).size≤1099511627776:=by
  have h1:(rcS v (pS v) (pO v) es).size≤es.length*1048663:=by
   unfold rcS
   split
   ·exact zfC v (pS v) 1048600 es fun e _=>zfA v e
   ·exact zsE _
  rw [hE.len] at h1;omega
 unfold rgS rgE;obtain ⟨s,hs⟩:∃ s,s=rcS v (pS v) (pO v) es:=⟨_,rfl⟩;obtain ⟨o,ho⟩:∃ o,o=rcO v (pO v) es:=⟨_,rfl⟩;rw [←hs,←ho] at K1 ⊢;rw [←hs] at hsz;obtain ⟨Z,hZ⟩:∃ Z:Int,Z=((m*64:Nat):Int):=⟨_,rfl⟩;have hZb:0≤Z∧Z≤67108864:=by omega
 rw [←hZ] at K2 ⊢;obtain ⟨rs,hrs⟩:∃ x:ByteArray,x=if (o&&decide ((s.size:Int)≤Z-u))=true then s else ⟨#[]⟩:=⟨_,rfl⟩
 obtain ⟨re,hre⟩:∃ x:Int,x=if o=true then (if (s.size:Int)≤Z-u then 0 else 4) else 1:=⟨_,rfl⟩
 rw [←hrs,←hre];have HB:=zh hB;have HC:=zh hc;have HW:=zh hW;have c0:W.cell? ⟨w.heap.size,0,none⟩=some (.int .i64 at_):=zcr _ _ 0 _ 138 (0,0) hc;have c1:W.cell? ⟨w.heap.size,1,none⟩=some (.int .i64 m):=zcr _ _ 1 _ 138 (0,0) hc;have c2:W.cell? ⟨w.heap.size,2,none⟩=some (.int .i64 v):=zcr _ _ 2 _ 138 (0,0) hc;clear hs ho hZ hB hc hW hE ok
 cases o with
 | false =>
   obtain rfl:rs=⟨#[]⟩:=by rw [hrs];rfl
   obtain rfl:re=1:=by rw [hre];rfl
   clear hrs hre;go_enter Tryz.func142,Tryz.ntmps142
   go_upto_region 1 with fail
   refine zaf (w:=W) HW.out.symm ?_
   go_wp2_with (go_at_call 154;(with_reducible refine K1.out.mono ?_);rintro q w1 ⟨rfl,b1⟩)
   go_ret2;exact ⟨rfl,HB.out.trans (b1.mono HB.out.size)⟩
 | true =>
   go_enter Tryz.func142,Tryz.ntmps142
   go_upto_region 1 with fail
   refine zaf (w:=W) HW.out.symm ?_
   go_upto_region 4 with (go_at_call 154;(with_reducible refine K1.out.mono ?_);rintro q w1 ⟨rfl,b1⟩)
   have HB1:=zh (HB.out.trans (b1.mono HB.out.size));have hc1:w1.heap[w.heap.size]?=some (.cells (rgc at_ m v) 138 (0,0)):=(b1.block _ (zgx HC.out)).trans HC.out;have e0:w1.cell? ⟨w.heap.size,0,none⟩=some (.int .i64 at_):=zcr _ _ 0 _ 138 (0,0) hc1;have e1:w1.cell? ⟨w.heap.size,1,none⟩=some (.int .i64 m):=zcr _ _ 1 _ 138 (0,0) hc1;have e2:w1.cell? ⟨w.heap.size,2,none⟩=some (.int .i64 v):=zcr _ _ 2 _ 138 (0,0) hc1;clear b1 hc1 c0 c1 c2
   by_cases hle:(s.size:Int)≤Z-u
   ·have t1:decide (Z-(u:Int)<(s.size:Int))=false:=zsC (by omega);obtain rfl:rs=s:=by rw [hrs,zsD hle];rfl
    obtain rfl:re=0:=by rw [hre];simp [hle]
    clear hrs hre hle
    go_wp2_with (go_at_call 164;(with_reducible refine (K2.out _).mono ?_);rintro q w2 ⟨rfl,b2⟩)
    go_ret2;exact ⟨rfl,HB1.out.trans (b2.mono HB1.out.size)⟩
   ·have t1:decide (Z-(u:Int)<(s.size:Int))=true:=zsD (by omega);obtain rfl:rs=⟨#[]⟩:=by rw [hrs,zsC hle];rfl
    obtain rfl:re=4:=by rw [hre];simp [hle]
    clear hrs hre hle
    go_wp2_with (go_at_call 164;(with_reducible refine (K2.out _).mono ?_);rintro q w2 ⟨rfl,b2⟩)
    go_ret2;exact ⟨rfl,HB1.out.trans (b2.mono HB1.out.size)⟩
def ahL (d:St) (at_ u:Nat):List UInt8:=if u % 64=0 then [] else if d.refuses ((at_+u / 64:Nat):Int)=0 then (d.now (at_+u / 64)).take (u % 64) else []
def ahZ (d:St) (at_ u:Nat):Int:=if u % 64=0 then 0 else d.refuses ((at_+u / 64:Nat):Int)
theorem zeQ (l:List UInt8) (k:Nat):(txt l).extract 0 k=txt (l.take k):=by
 apply ByteArray.ext;apply Array.toList_inj.1;rw [ztm,zts,zal,zal,ztz,List.drop_zero,Nat.sub_zero]
theorem zoJ (g:Nat) (L:List Nat) (d:St) (at_ u:Nat) (m v:Int) (w:World) (h:Dv w g L d) (ha:at_≤1048576) (hu:u≤1099511627776) :
 Calls Tryz.prog 143 #[RG at_ m v,ptr g,.int .i64 u] w fun e w'=>e=.returned (.tuple #[.string (txt (ahL d at_ u)),.int .i64 (ahZ d at_ u)])∧Below w.heap.size w w':=by
 obtain ⟨W,hW⟩:∃ W,W=w.alloc (.cells (rgc at_ m v) 138):=⟨_,rfl⟩;have hB:Below w.heap.size w W:=by rw [hW];exact (Below.refl _ w).alloc (zsy _) _
 have hc:W.heap[w.heap.size]?=some (.cells (rgc at_ m v) 138 (0,0)):=by rw [hW];exact zsz w _
 have K1:=zh (zdZ g L d ((at_+u / 64:Nat):Int) W (h.below hB));have i1:((at_+u / 64:Nat):Int)=(at_:Int)+(u:Int) / 64:=by omega
 have i2:((u % 64:Nat):Int)=(u:Int) % 64:=by omega
 have HB:=zh hB;have HW:=zh hW;have c0:W.cell? ⟨w.heap.size,0,none⟩=some (.int .i64 at_):=zcr _ _ 0 _ 138 (0,0) hc;have hn64:(d.now (at_+u / 64)).length=64:=h.1.now _;unfold ahL ahZ;clear hB hc hW h
 by_cases h0:u % 64=0
 ·rw [if_pos h0,if_pos h0];have t0:((u:Int) % 64==0)=true:=by rw [←i2,h0];rfl
  have hz:txt []=⟨#[]⟩:=rfl;rw [hz];clear h0 i1 i2 K1 hn64;go_enter Tryz.func143,Tryz.ntmps143
  go_upto_region 1 with fail
  refine zaf (w:=W) HW.out.symm ?_;go_wp2;go_ret2;exact ⟨rfl,HB.out⟩
 ·rw [if_neg h0,if_neg h0];have t0:((u:Int) % 64==0)=false:=by rw [←i2];exact zcG (by omega)
  by_cases hr:d.refuses ((at_+u / 64:Nat):Int)=0
  ·rw [if_pos hr];have e1:d.readS ((at_+u / 64:Nat):Int)=d.now (at_+u / 64):=by unfold St.readS;rw [if_pos hr,zsK]
   rw [e1,hr,i1] at K1;rw [hr];have hx:=zeQ (d.now (at_+u / 64)) (u % 64);have hs:(txt (d.now (at_+u / 64))).size=64:=by rw [zah];exact hn64
   obtain ⟨S,hS⟩:∃ S,S=txt (d.now (at_+u / 64)):=⟨_,rfl⟩;rw [←hS] at K1 hx hs;rw [←hx];have q1:((u:Int) % 64).toNat=u % 64:=by omega
   have q2:(u:Int) % 64≤(S.size:Int):=by omega
   have q3:(0:Int)≤(u:Int) % 64:=by omega
   clear hr hx hS e1 i1 h0 hn64;go_enter Tryz.func143,Tryz.ntmps143
   go_upto_region 1 with fail
   refine zaf (w:=W) HW.out.symm ?_
   go_wp2_with (go_at_call 181;(with_reducible refine K1.out.mono ?_);rintro q w1 ⟨rfl,b1⟩)
   go_ret2;exact ⟨rfl,HB.out.trans (b1.mono HB.out.size)⟩
  ·rw [if_neg hr];have e1:d.readS ((at_+u / 64:Nat):Int)=[]:=by unfold St.readS;rw [if_neg hr]
   have hz:txt []=⟨#[]⟩:=rfl;obtain ⟨Z,hZ⟩:∃ Z,Z=d.refuses ((at_+u / 64:Nat):Int):=⟨_,rfl⟩;rw [←hZ] at K1 hr ⊢;rw [e1,hz,i1] at K1;rw [hz];have t2:(Z==0)=false:=zcG hr;have t3:(Z != 0)=true:=by unfold bne;rw [t2];rfl
   clear hr hZ e1 i1 h0 hn64;go_enter Tryz.func143,Tryz.ntmps143
   go_upto_region 1 with fail
   refine zaf (w:=W) HW.out.symm ?_
   go_wp2_with (go_at_call 181;(with_reducible refine K1.out.mono ?_);rintro q w1 ⟨rfl,b1⟩)
   go_ret2;exact ⟨rfl,HB.out.trans (b1.mono HB.out.size)⟩
end
section
open Dk
def zby (d:St) (at_ m:Nat) (v:Int) (u:Nat) (es:List En):St×Int×Int :=
 if rgE v m u es≠0 then (d,0,rgE v m u es)
 else if rgS v m u es=⟨#[]⟩ then (d,u,0)
 else if ahZ d at_ u≠0 then (d,0,ahZ d at_ u)
 else if (wrS d (at_+(u-(ahL d at_ u).length) / 64) (ahL d at_ u++(rgS v m u es).data.toList)).2≠0 then ((wrS d (at_+(u-(ahL d at_ u).length) / 64) (ahL d at_ u++(rgS v m u es).data.toList)).1,0,(wrS d (at_+(u-(ahL d at_ u).length) / 64) (ahL d at_ u++(rgS v m u es).data.toList)).2)
 else ((wrS d (at_+(u-(ahL d at_ u).length) / 64) (ahL d at_ u++(rgS v m u es).data.toList)).1,((u+(rgS v m u es).size:Nat):Int),0)
theorem zaO {w:World} {b:Nat} {a m v:Int} (h:w.heap[b]?=some (.cells (rgc a m v) 138 (0,0))):w.cell? ⟨b,0,none⟩=some (.int .i64 a)∧w.cell? ⟨b,1,none⟩=some (.int .i64 m)∧w.cell? ⟨b,2,none⟩=some (.int .i64 v) :=
 ⟨zcr _ _ 0 _ 138 (0,0) h,zcr _ _ 1 _ 138 (0,0) h,zcr _ _ 2 _ 138 (0,0) h⟩
theorem zkw (d:St) (at_ u:Nat):(ahL d at_ u).length≤u∧(ahL d at_ u).length≤64:=by
 unfold ahL
 split
 ·exact ⟨zsE _,by simp⟩
 ·split
  ·rw [zsU];omega
  ·exact ⟨zsE _,by simp⟩
theorem zmz (a:List UInt8) (s:ByteArray):txt a++s=txt (a++s.data.toList):=by
 apply ByteArray.ext;apply Array.toList_inj.1;rw [ztb,ztn,zal,zal]
theorem zrF (g:Nat) (L:List Nat) (d:St) (at_ m U:Nat) (v:Int) (A:Option Addr) (n c:Nat) (es:List En) (w:World) (h:Dv w g L d) (ha:at_≤1048576) (hm:m≤1048576)
 (hon:onB d.n at_ m v=true) (hhas:zbx m U=true) (hbg:bgn v U=U) (hE:zcJ w.heap.size A n es w) (hn:n≤64) (ok:∀ e∈es,e.Ok) :
 Calls Tryz.prog 80 #[ptr g,RG at_ m v,.int .i64 U,.slice A n c] w fun e w'=>e=.returned (.tuple #[.int .i64 (zby d at_ m v U es).2.1,.int .i64 (zby d at_ m v U es).2.2])∧zav g L (zby d at_ m v U es).1 w w':=by
 obtain ⟨W,hW⟩:∃ W,W=w.alloc (.cells (rgc at_ m v) 138):=⟨_,rfl⟩;have hB:Below w.heap.size w W:=by rw [hW];exact (Below.refl _ w).alloc (zsy _) _
 have hc:W.heap[w.heap.size]?=some (.cells (rgc at_ m v) 138 (0,0)):=by rw [hW];exact zsz w _
 have hu:0≤(U:Int)∧(U:Int)≤((m*64:Nat):Int):=of_decide_eq_true hhas;have hU:U≤67108864:=by omega
 have hsz:(rgS v m U es).size≤134217728:=by
  have h1:(rcS v (pS v) (pO v) es).size≤es.length*1048663:=by
   unfold rcS
   split
   ·exact zfC v (pS v) 1048600 es fun e _=>zfA v e
   ·exact zsE _
  rw [hE.len] at h1;unfold rgS
  split
  ·omega
  ·exact zsE _
 have hal:=zkw d at_ U;have K1:=zh (zgW g L d at_ m v W (h.below hB) ha hm);have K2:=zh (fun W=>zjH at_ v U m W hm);have K3:=zh (fun W=>zfx v U W (by omega));have K4:=zh (fun W (hW:zcJ W.heap.size A n es W)=>zhZ at_ v m U A n c es W hm (by omega) hW hn ok);have K5:=zh (fun W (hW:Dv W g L d)=>zoJ g L d at_ U m v W hW ha (by omega))
 have K6:Hid (∀ W,Dv W g L d→Calls Tryz.prog 144 #[RG at_ m v,ptr g,.int .i64 ((U:Int)-((ahL d at_ U).length:Nat)),.string (txt (ahL d at_ U++(rgS v m U es).data.toList))] W fun e w'=>e=.returned (.int .i64 (wrS d (at_+(U-(ahL d at_ U).length) / 64) (ahL d at_ U++(rgS v m U es).data.toList)).2)∧zav g L (wrS d (at_+(U-(ahL d at_ U).length) / 64) (ahL d at_ U++(rgS v m U es).data.toList)).1 W w'):=fun W hW=>by
  have hl:(ahL d at_ U++(rgS v m U es).data.toList).length≤1099511627776:=by
   rw [zsS,zta];have h2:(rgS v m U es).data.size≤134217728:=hsz;exact zsB (Nat.add_le_add hal.2 h2) (by decide)
  have:=zmO g L d at_ (U-(ahL d at_ U).length) m v (ahL d at_ U++(rgS v m U es).data.toList) W hW ha (by omega) hl
  rw [show ((U-(ahL d at_ U).length:Nat):Int)=(U:Int)-((ahL d at_ U).length:Nat) by omega] at this;exact this
 rw [hon] at K1;rw [hhas] at K2;rw [hbg] at K3;obtain ⟨AG,hAG⟩:∃ AG,AG=zby d at_ m v U es:=⟨_,rfl⟩;rw [←hAG];unfold zby at hAG;obtain ⟨X,hX⟩:∃ X,X=wrS d (at_+(U-(ahL d at_ U).length) / 64) (ahL d at_ U++(rgS v m U es).data.toList):=⟨_,rfl⟩;obtain ⟨E,hEq⟩:∃ E,E=rgE v m U es:=⟨_,rfl⟩;obtain ⟨Z,hZ⟩:∃ Z,Z=ahZ d at_ U:=⟨_,rfl⟩;rw [←hX,←zmz] at K6;rw [←hX,←hEq,←hZ] at hAG;rw [←hEq] at K4;rw [←hZ] at K5;obtain ⟨S,hS⟩:∃ S,S=rgS v m U es:=⟨_,rfl⟩;rw [←hS] at K4 K6 hsz hAG;have htz:=zah (ahL d at_ U);obtain ⟨al,hal2⟩:∃ l,l=(ahL d at_ U).length:=⟨_,rfl⟩;rw [←hal2] at K6 htz hal;obtain ⟨T,hT⟩:∃ T,T=txt (ahL d at_ U):=⟨_,rfl⟩;rw [←hT] at K5 K6 htz;have halU:al≤U:=hal.1;have hT64:al≤64:=hal.2;have hadd:¬ 9223372036854775807<T.size+S.size:=by omega
 have hadd2:¬ 9223372036854775807<al+S.size:=by omega
 have HD:=zh (h.below hB);have HE:=zh ((hE.below hB).mr hB.size);have HB:=zh hB;have HC:=zh hc;have HW:=zh hW;have HD0:=zh h;obtain ⟨c0,c1,c2⟩:=zaO hc;have HAG:=zh hAG;clear hB hc hW h hE hX hEq hZ hS hal2 hT hon hhas hbg hal ok hu hAG;have fin:Hid (∀ W',Below w.heap.size w W'→zav g L d w W'):=fun W' hb=>⟨L,HD0.out.below hb,zau.of_below hb,zaT.refl _ _⟩;unfold ptr at *;have q1:((U:Int)==(U:Int))=true:=by simp
 go_enter Tryz.func80,Tryz.ntmps80
 go_upto_region 1 with fail
 refine zaf (w:=W) HW.out.symm ?_
 go_upto_region 3 with (first
  | (go_at_call 139;(with_reducible refine K1.out.mono ?_);rintro q w1 ⟨rfl,b1⟩;have HC1:=zh ((b1.block _ (zgx HC.out)).trans HC.out);obtain ⟨e0,e1,e2⟩:=zaO HC1.out;have HB1:=zh (HB.out.trans (b1.mono HB.out.size));have HD1:=zh (HD.out.below b1);have HE1:=zh ((HE.out.below b1).mr b1.size);clear b1)
  | (go_at_call 140;(with_reducible refine (K2.out _).mono ?_);rintro q w2 ⟨rfl,b2⟩;have HC2:=zh ((b2.block _ (zgx HC1.out)).trans HC1.out);obtain ⟨f0,f1,f2⟩:=zaO HC2.out;have HB2:=zh (HB1.out.trans (b2.mono HB1.out.size));have HD2:=zh (HD1.out.below b2);have HE2:=zh ((HE1.out.below b2).mr b2.size);clear b2)
  | (go_at_call 141;(with_reducible refine (K3.out _).mono ?_);rintro q w3 ⟨rfl,rfl⟩))
 clear c0 c1 c2 e0 e1 e2
 go_upto_region 4 with (go_at_call 142;(with_reducible refine (K4.out _ HE2.out).mono ?_);rintro q w4 ⟨rfl,b4⟩)
 have HC4:=zh ((b4.block _ (zgx HC2.out)).trans HC2.out);obtain ⟨c0,c1,c2⟩:=zaO HC4.out;have HB4:=zh (HB2.out.trans (b4.mono HB2.out.size));have HD4:=zh (HD2.out.below b4);clear b4 f0 f1 f2 HE HE1 HE2 HC HC1 HC2 HB HB1 HB2 HD HD1 HD2
 by_cases hE0:E=0
 rotate_left
 ·have t1:(E==0)=false:=zcG hE0;have t2:(E != 0)=true:=by unfold bne;rw [t1];rfl
  have hR:AG=(d,0,E):=by rw [HAG.out,if_pos hE0]
  subst hR;clear hE0 HAG;go_wp2;go_ret2;exact ⟨rfl,fin.out _ HB4.out⟩
 subst hE0
 by_cases hS0:S=⟨#[]⟩
 ·have hR:AG=(d,(U:Int),0):=by rw [HAG.out,if_neg (by simp),if_pos hS0]
  subst hS0 hR;clear HAG;go_wp2;go_ret2;exact ⟨rfl,fin.out _ HB4.out⟩
 have t3:S.toList.isEmpty=false:=by
  rw [ztf,List.isEmpty_eq_false_iff];intro e;exact hS0 (ByteArray.ext (Array.toList_inj.1 e))
 have HAG2:Hid (AG=if Z≠0 then (d,0,Z) else if X.2≠0 then (X.1,0,X.2) else (X.1,((U+S.size:Nat):Int),0)):=by show _=_;rw [HAG.out,if_neg (by simp),if_neg hS0]
 clear HAG hS0
 go_upto_region 9 with (go_at_call 143;(with_reducible refine (K5.out _ HD4.out).mono ?_);rintro q w5 ⟨rfl,b5⟩)
 have HC5:=zh ((b5.block _ (zgx HC4.out)).trans HC4.out);obtain ⟨e0,e1,e2⟩:=zaO HC5.out;have HB5:=zh (HB4.out.trans (b5.mono HB4.out.size));have HD5:=zh (HD4.out.below b5);clear b5 c0 c1 c2 HC4 HB4 HD4
 by_cases hZ0:Z=0
 rotate_left
 ·have t1:(Z==0)=false:=zcG hZ0;have t2:(Z != 0)=true:=by unfold bne;rw [t1];rfl
  have hR:AG=(d,0,Z):=by rw [HAG2.out,if_pos hZ0]
  subst hR;clear hZ0 HAG2;go_wp2;go_ret2;exact ⟨rfl,fin.out _ HB5.out⟩
 subst hZ0;have HAG3:Hid (AG=if X.2≠0 then (X.1,0,X.2) else (X.1,((U+S.size:Nat):Int),0)):=by show _=_;rw [HAG2.out,if_neg (by simp)]
 clear HAG2
 go_upto_region 12 with (go_at_call 144;(with_reducible refine (K6.out _ HD5.out).mono ?_);rintro q w6 ⟨rfl,hM⟩)
 have HM:Hid (zav g L X.1 w w6):=by
  obtain ⟨L',m1,m2,m3⟩:=hM;exact ⟨L',m1,(zau.of_below HB5.out).trans m2,(zaT.refl w L).trans m3 HB5.out.size⟩
 clear hM;obtain ⟨x1,x2⟩:=X;dsimp only at HAG3 HM
 by_cases hX0:x2=0
 rotate_left
 ·have t1:(x2==0)=false:=zcG hX0;have t2:(x2 != 0)=true:=by unfold bne;rw [t1];rfl
  have hR:AG=(x1,0,x2):=by rw [HAG3.out,if_pos hX0]
  subst hR;clear hX0 HAG3;go_wp2;go_ret2;exact ⟨rfl,HM.out⟩
 ·subst hX0;have hR:AG=(x1,((U+S.size:Nat):Int),0):=by rw [HAG3.out,if_neg (by simp)]
  have hq:((U+S.size:Nat):Int)=(U:Int)+(S.size:Int):=by omega
  rw [hq] at hR;subst hR;clear HAG3 hq;go_wp2;go_ret2;exact ⟨rfl,HM.out⟩
end
section
open Dk
def zdr (d:St) (at_ m:Nat) (v:Int) (es:List En):St×Int :=
 if onB d.n at_ m v=true then (if rgE v m 0 es≠0 then (d,rgE v m 0 es) else wrS d at_ ((rgS v m 0 es).data.toList++List.replicate (m*64-(rgS v m 0 es).size) 0)) else (d,1)
theorem zz_list (n:Nat):(zz n).data.toList=List.replicate n 0:=by
 unfold zz;rw [zal];rfl
theorem zmE (g:Nat) (L:List Nat) (d:St) (at_ m:Nat) (v:Int) (A:Option Addr) (n c:Nat) (es:List En) (w:World) (h:Dv w g L d) (ha:at_≤1048576) (hm:m≤1048576)
 (hE:zcJ w.heap.size A n es w) (hn:n≤64) (ok:∀ e∈es,e.Ok) :
 Calls Tryz.prog 108 #[ptr g,RG at_ m v,.slice A n c] w fun e w'=>e=.returned (.int .i64 (zdr d at_ m v es).2)∧zav g L (zdr d at_ m v es).1 w w':=by
 obtain ⟨W,hW⟩:∃ W,W=w.alloc (.cells (rgc at_ m v) 138):=⟨_,rfl⟩;have hB:Below w.heap.size w W:=by rw [hW];exact (Below.refl _ w).alloc (zsy _) _
 have hc:W.heap[w.heap.size]?=some (.cells (rgc at_ m v) 138 (0,0)):=by rw [hW];exact zsz w _
 have hsz:(rgS v m 0 es).size≤134217728:=by
  have h1:(rcS v (pS v) (pO v) es).size≤es.length*1048663:=by
   unfold rcS
   split
   ·exact zfC v (pS v) 1048600 es fun e _=>zfA v e
   ·exact zsE _
  rw [hE.len] at h1;unfold rgS
  split
  ·omega
  ·exact zsE _
 have hfit:rgE v m 0 es=0→(rgS v m 0 es).size≤m*64:=fun h0=>by
  unfold rgE at h0;unfold rgS
  split
  ·rename_i h1
   rw [zsR] at h1
   have:=of_decide_eq_true h1.2
   omega
  ·exact zsE _
 have K1:=zh (zgW g L d at_ m v W (h.below hB) ha hm);have K2:=zh (fun W=>zfz at_ v m W hm);have K3:Hid (∀ n:Nat,n≤140737488355328→∀ W,Calls Tryz.prog 163 #[.int .i64 n] W fun q w'=>q=.returned (.string (zz n))∧Below W.heap.size W w'):=fun n hn W=>zeh n W hn;have K4:Hid (∀ W,zcJ W.heap.size A n es W→Calls Tryz.prog 142 #[RG at_ m v,.int .i64 0,.slice A n c] W fun e w'=>e=.returned (.tuple #[.string (rgS v m 0 es),.int .i64 (rgE v m 0 es)])∧Below W.heap.size W w'):=fun W hW=>zhZ at_ v m 0 A n c es W hm (by omega) hW hn ok
 have K6:Hid (∀ W,Dv W g L d→rgE v m 0 es=0→Calls Tryz.prog 144 #[RG at_ m v,ptr g,.int .i64 0,.string (rgS v m 0 es++zz (m*64-(rgS v m 0 es).size))] W fun e w'=>e=.returned (.int .i64 (wrS d at_ ((rgS v m 0 es).data.toList++List.replicate (m*64-(rgS v m 0 es).size) 0)).2)∧zav g L (wrS d at_ ((rgS v m 0 es).data.toList++List.replicate (m*64-(rgS v m 0 es).size) 0)).1 W w'):=fun W hW h0=>by
  have hl:((rgS v m 0 es).data.toList++List.replicate (m*64-(rgS v m 0 es).size) (0:UInt8)).length≤1099511627776:=by
   rw [zsS,zta,ztj];have h2:(rgS v m 0 es).data.size≤134217728:=hsz;have h3:m*64-(rgS v m 0 es).size≤67108864:=by omega
   exact zsB (Nat.add_le_add h2 h3) (by decide)
  have:=zmO g L d at_ 0 m v ((rgS v m 0 es).data.toList++List.replicate (m*64-(rgS v m 0 es).size) 0) W hW ha (by omega) hl
  have e1:txt ((rgS v m 0 es).data.toList++List.replicate (m*64-(rgS v m 0 es).size) 0)=rgS v m 0 es++zz (m*64-(rgS v m 0 es).size):=by
   apply ByteArray.ext;apply Array.toList_inj.1;rw [zal,ztb,ztn,zz_list]
  rw [e1] at this;exact this
 obtain ⟨FS,hFS⟩:∃ x,x=zdr d at_ m v es:=⟨_,rfl⟩;rw [←hFS];unfold zdr at hFS;obtain ⟨X,hX⟩:∃ X,X=wrS d at_ ((rgS v m 0 es).data.toList++List.replicate (m*64-(rgS v m 0 es).size) 0):=⟨_,rfl⟩;rw [←hX] at K6 hFS;obtain ⟨E,hEq⟩:∃ E,E=rgE v m 0 es:=⟨_,rfl⟩;rw [←hEq] at K4 K6 hFS hfit;obtain ⟨S,hS⟩:∃ S,S=rgS v m 0 es:=⟨_,rfl⟩;rw [←hS] at K4 K6 hsz hfit;obtain ⟨b1,hb1⟩:∃ b,b=onB d.n at_ m v:=⟨_,rfl⟩;rw [←hb1] at K1 hFS;have HD:=zh (h.below hB);have HE:=zh ((hE.below hB).mr hB.size);have HB:=zh hB;have HC:=zh hc;have HW:=zh hW;have HFS:=zh hFS;have fin:Hid (∀ W',Below w.heap.size w W'→zav g L d w W'):=fun W' hb=>⟨L,h.below hb,zau.of_below hb,zaT.refl _ _⟩;obtain ⟨c0,c1,c2⟩:=zaO hc;clear hB hc hW h hE hX hEq hS hb1 ok hFS;unfold ptr at *
 cases b1 with
 | false =>
   obtain rfl:FS=(d,1):=HFS.out;clear HFS hfit;go_enter Tryz.func108,Tryz.ntmps108
   go_upto_region 1 with fail
   refine zaf (w:=W) HW.out.symm ?_
   go_wp2_with (go_at_call 139;(with_reducible refine K1.out.mono ?_);rintro q w1 ⟨rfl,b1⟩)
   go_ret;exact ⟨rfl,fin.out _ (HB.out.trans (b1.mono HB.out.size))⟩
 | true =>
   have HF2:Hid (FS=if E≠0 then (d,E) else X):=HFS.out;clear HFS;go_enter Tryz.func108,Tryz.ntmps108
   go_upto_region 1 with fail
   refine zaf (w:=W) HW.out.symm ?_
   go_upto_region 3 with (go_at_call 139;(with_reducible refine K1.out.mono ?_);rintro q w1 ⟨rfl,b1⟩)
   have HC1:=zh ((b1.block _ (zgx HC.out)).trans HC.out);obtain ⟨e0,e1,e2⟩:=zaO HC1.out;have HB1:=zh (HB.out.trans (b1.mono HB.out.size));have HD1:=zh (HD.out.below b1);have HE1:=zh ((HE.out.below b1).mr b1.size);clear b1 c0 c1 c2
   go_upto_region 4 with (go_at_call 142;(with_reducible refine (K4.out _ HE1.out).mono ?_);rintro q w4 ⟨rfl,b4⟩)
   have HC4:=zh ((b4.block _ (zgx HC1.out)).trans HC1.out);have HB4:=zh (HB1.out.trans (b4.mono HB1.out.size));have HD4:=zh (HD1.out.below b4);clear b4 e0 e1 e2
   by_cases hE0:E=0
   rotate_left
   ·have t1:(E==0)=false:=zcG hE0;have t2:(E != 0)=true:=by unfold bne;rw [t1];rfl
    have hR:FS=(d,E):=by rw [HF2.out,if_pos hE0]
    subst hR;clear hE0 HF2;go_wp2;go_ret;exact ⟨rfl,fin.out _ HB4.out⟩
   have hR:FS=X:=by rw [HF2.out,if_neg (fun h=>h hE0)]
   have hfs:=hfit hE0;have K66:=zh (fun W (hW:Dv W g L d)=>K6.out W hW hE0);subst hE0 hR;have K33:=zh (K3.out (m*64-S.size) (by omega));rw [show ((m*64-S.size:Nat):Int)=((m*64:Nat):Int)-(S.size:Int) by omega] at K33
   have hzs:(zz (m*64-S.size)).size≤67108864:=by
    have h1:(zz (m*64-S.size)).data.toList.length=m*64-S.size:=by rw [zz_list,ztj]
    rw [zta] at h1;have h2:(zz (m*64-S.size)).size=(zz (m*64-S.size)).data.size:=rfl;omega
   obtain ⟨Y,hY⟩:∃ Y,Y=zz (m*64-S.size):=⟨_,rfl⟩;rw [←hY] at K33 K66 hzs;obtain ⟨Z,hZ⟩:∃ Z:Int,Z=((m*64:Nat):Int):=⟨_,rfl⟩;rw [←hZ] at K2 K33;have hZ2:0≤Z∧Z≤67108864:=by omega
   have hadd:¬ 9223372036854775807<S.size+Y.size:=by omega
   have w1_:IntKind.i64.wrap (Z-(S.size:Int))=Z-(S.size:Int):=IntWalk.i64_in _ (by omega);clear hY hZ HF2 hfit K6 K3
   go_upto_region 6 with fail
   have HCd:Hid (w4.drew.heap[w.heap.size]?=some (.cells (rgc at_ m v) 138 (0,0))):=HC4.out;obtain ⟨e0,e1,e2⟩:=zaO HCd.out;have HBd:Hid (Below w.heap.size w w4.drew):=HB4.out.drew;have HDd:Hid (Dv w4.drew g L d):=HD4.out.below (Below.refl _ w4).drew
   go_region_law (first
    | (go_simp;go_at_call 164;(with_reducible refine (K2.out _).mono ?_);rintro q w5 ⟨rfl,b5⟩;have HC5:=zh ((b5.block _ (zgx HCd.out)).trans HCd.out);obtain ⟨f0,f1,f2⟩:=zaO HC5.out;have HB5:=zh (HBd.out.trans (b5.mono HBd.out.size));have HD5:=zh (HDd.out.below b5);clear b5)
    | (go_simp;go_at_call 163;(with_reducible refine (K33.out _).mono ?_);rintro q w6 ⟨rfl,b6⟩;have HC6:=zh ((b6.block _ (zgx HC5.out)).trans HC5.out);obtain ⟨q0,q1,q2⟩:=zaO HC6.out;have HB6:=zh (HB5.out.trans (b6.mono HB5.out.size));have HD6:=zh (HD5.out.below b6);clear b6)
    | (go_simp;go_at_call 144;(with_reducible refine (K66.out _ HD6.out).mono ?_);rintro q w7 ⟨rfl,hM⟩))
   all_goals
    go_wp2;go_ret;obtain ⟨L',m1,m2,m3⟩:=hM;exact ⟨rfl,L',m1,(zau.of_below HB6.out).trans m2,(zaT.refl w L).trans m3 HB6.out.size⟩
end
section
open Dk
def zaS (d:St) (at_ u k:Nat):St×Int×Bool :=
 if d.refuses ((at_+k:Nat):Int)≠0 then (d,d.refuses ((at_+k:Nat):Int),false)
 else if (d.now (at_+k)).drop (u-k*64)=List.replicate (64-(u-k*64)) 0 then (d,0,false)
 else ((d.write ((at_+k:Nat):Int) ((d.now (at_+k)).take (u-k*64))).1,(d.write ((at_+k:Nat):Int) ((d.now (at_+k)).take (u-k*64))).2,true)
theorem zjM (l:List UInt8) (k:Nat) (hk:k≤l.length):(txt l).extract k l.length=txt (l.drop k):=by
 apply ByteArray.ext;apply Array.toList_inj.1;rw [ztm,zts,zal,zal,ztz,zsX (by rw [zs4];omega)]
theorem zoP (g:Nat) (L:List Nat) (d:St) (b3 b4 b5 b7 at_ u k:Nat) (m v:Int) (b:Bool) (w:World) (h:Dv w g L d) (h3:w.heap[b3]?=some (.cells #[ptr g] 24 (0,0))) (h4:w.heap[b4]?=some (.cells (rgc at_ m v) 138 (0,0)))
 (h5:w.heap[b5]?=some (.cells #[.int .i64 u] 3 (0,0))) (h7:w.heap[b7]?=some (.cells #[.bool b] 4 (0,0))) (n3:b3≠b7) (n4:b4≠b7) (hL:b7∉L) (ha:at_≤1048576) (hu:u≤67108864) (hk:k≤1048576) (huk:u≤k*64+63) :
 Calls Tryz.prog 187 #[.int .i64 k,ptr b3,ptr b4,ptr b5,ptr b7] w fun e w'=>e=.returned (.int .i64 (zaS d at_ u k).2.1)∧∃ L',Dv w' g L' (zaS d at_ u k).1∧zau (b7 :: L) w w'∧zaT w L L'∧w'.heap[b7]?=some (.cells #[.bool (b||(zaS d at_ u k).2.2)] 4 (0,0))∧b7∉L':=by
 have c3:w.cell? ⟨b3,0,none⟩=some (ptr g):=zcr w b3 0 _ 24 (0,0) h3;have c4:w.cell? ⟨b4,0,none⟩=some (.int .i64 at_):=zcr w b4 0 _ 138 (0,0) h4;have KR:=zh (zdZ g L d ((at_+k:Nat):Int) w h);have i1:((at_+k:Nat):Int)=(at_:Int)+(k:Int):=by omega
 have hb7:b7<w.heap.size:=(zgx h7);have H3:=zh h3;have H4:=zh h4;have H5:=zh h5;have H7:=zh h7;have HD:=zh h;obtain ⟨WS,hWS⟩:∃ x,x=zaS d at_ u k:=⟨_,rfl⟩;rw [←hWS];unfold zaS at hWS;have fin:Hid (∀ W',Below w.heap.size w W'→∃ L',Dv W' g L' d∧zau (b7 :: L) w W'∧zaT w L L'∧W'.heap[b7]?=some (.cells #[.bool (b||false)] 4 (0,0))∧b7∉L'):=fun W' hb=>⟨L,h.below hb,zau.of_below hb,zaT.refl _ _,by rw [Bool.or_false];exact (hb.block _ hb7).trans h7,hL⟩
 by_cases hr:d.refuses ((at_+k:Nat):Int)=0
 rotate_left
 ·have e1:d.readS ((at_+k:Nat):Int)=[]:=by unfold St.readS;rw [if_neg hr]
  rw [if_pos hr] at hWS;obtain ⟨Z,hZ⟩:∃ Z,Z=d.refuses ((at_+k:Nat):Int):=⟨_,rfl⟩;rw [e1,←hZ,i1] at KR;rw [←hZ] at hWS hr;subst hWS;have t1:(Z==0)=false:=zcG hr;have t2:(Z != 0)=true:=by unfold bne;rw [t1];rfl
  clear hr hZ e1 i1 h h3 h4 h5 h7;unfold ptr at *;go_enter Tryz.func187,Tryz.ntmps187
  go_wp2_with (go_at_call 181;(with_reducible refine KR.out.mono ?_);rintro q w1 ⟨rfl,b1⟩)
  go_ret;exact ⟨rfl,fin.out _ b1⟩
 have e1:d.readS ((at_+k:Nat):Int)=d.now (at_+k):=by unfold St.readS;rw [if_pos hr,zsK]
 rw [if_neg (fun h=>h hr)] at hWS;rw [e1,hr,i1] at KR;have hn64:(d.now (at_+k)).length=64:=h.1.now _;obtain ⟨st,hst⟩:∃ st,st=u-k*64:=⟨_,rfl⟩;have hstI:max (0:Int) ((u:Int)-(k:Int)*64)=(st:Int):=by omega
 have hst63:st≤63:=by omega
 rw [←hst] at hWS;have KW:=zh (fun (W:World) (hW:Dv W g L d)=>zd3 g L d ((at_+k:Nat):Int) ((d.now (at_+k)).take st) W hW);rw [i1] at KW hWS;have hx1:=zjM (d.now (at_+k)) st (by omega);have hx2:=zeQ (d.now (at_+k)) st;rw [hn64] at hx1;have hs:(txt (d.now (at_+k))).size=64:=by rw [zah];exact hn64
 obtain ⟨S,hS⟩:∃ S,S=txt (d.now (at_+k)):=⟨_,rfl⟩;rw [←hS] at KR hx1 hx2 hs;have KZ:=zh (fun (W:World)=>zeh (64-st) W (by omega));rw [show ((64-st:Nat):Int)=64-(st:Int) by omega] at KZ;have hzz:zz (64-st)=txt (List.replicate (64-st) 0):=rfl
 have hbeq:∀ a c:List UInt8,((txt a).toList==(txt c).toList)=decide (a=c):=fun a c=>by
  rw [ztf,ztf,zal,zal]
  by_cases h:a=c
  ·rw [h];simp
  ·rw [zsC h];exact beq_eq_false_iff_ne.2 h
 have hcmp:=hbeq ((d.now (at_+k)).drop st) (List.replicate (64-st) 0);rw [←hzz] at hcmp;rw [←hx2] at KW;obtain ⟨TD,hTD⟩:∃ x,x=txt ((d.now (at_+k)).drop st):=⟨_,rfl⟩;obtain ⟨TZ,hTZ⟩:∃ x,x=zz (64-st):=⟨_,rfl⟩;rw [←hTD] at hx1 hcmp;rw [←hTZ] at hcmp KZ;have q1:(st:Int)≤64:=by omega
 have q2:(0:Int)≤(st:Int):=by omega
 have q3:(st:Int)≤(S.size:Int):=by omega
 have hx1s:S.extract st S.size=TD:=by rw [hs];exact hx1
 have w1_:IntKind.i64.wrap ((S.size:Int)-(st:Int))=64-(st:Int):=by rw [hs];exact IntWalk.i64_in _ (by omega)
 have w2_:IntKind.i64.wrap ((64:Int)-(st:Int))=64-(st:Int):=IntWalk.i64_in _ (by omega);have w3_:IntKind.i64.wrap ((at_:Int)+(k:Int))=(at_:Int)+(k:Int):=IntWalk.i64_in _ (by omega);obtain ⟨X,hX⟩:∃ X,X=d.write ((at_:Int)+(k:Int)) ((d.now (at_+k)).take st):=⟨_,rfl⟩;rw [←hX] at KW hWS;obtain ⟨TT,hTT⟩:∃ x,x=S.extract 0 st:=⟨_,rfl⟩;rw [←hTT] at KW;have hx0:S.extract 0 st=TT:=hTT.symm;have HWS:=zh hWS;have HCMP:=zh hcmp;have c5:w.cell? ⟨b5,0,none⟩=some (.int .i64 u):=zcr w b5 0 _ 3 (0,0) h5;clear hTD hTZ hX hTT hS hzz hbeq hcmp hWS hr e1 hst h h3 h4 h5 h7 hn64 i1 hx2;unfold ptr at *;go_enter Tryz.func187,Tryz.ntmps187
 go_upto_region 4 with (go_at_call 181;(with_reducible refine KR.out.mono ?_);rintro q w1 ⟨rfl,b1⟩)
 have HB1:=zh b1;have H31:=zh ((b1.block _ (zgx H3.out)).trans H3.out);have H41:=zh ((b1.block _ (zgx H4.out)).trans H4.out);have H71:=zh ((b1.block _ (zgx H7.out)).trans H7.out);have HD1:=zh (HD.out.below b1);have d5:w1.cell? ⟨b5,0,none⟩=some (.int .i64 u):=zcr w1 b5 0 _ 3 (0,0) ((b1.block _ (zgx H5.out)).trans H5.out);clear b1 c3 c4 c5
 go_upto_region 5 with fail
 by_cases hz:(d.now (at_+k)).drop st=List.replicate (64-st) 0
 ·have hR:WS=(d,0,false):=by rw [HWS.out,if_pos hz]
  subst hR;have ht:(TD.toList==TZ.toList)=true:=by rw [HCMP.out,zsD hz]
  clear hz HWS HCMP d5
  go_region_law (go_simp;go_at_call 163;(with_reducible refine (KZ.out _).mono ?_);rintro q w2 ⟨rfl,b2⟩)
  all_goals
   have HB2:=zh (HB1.out.drew.trans (b2.mono HB1.out.size));clear b2;go_wp2;go_ret;refine ⟨rfl,?_⟩;have hf:=fin.out _ HB2.out;rw [Bool.or_false] at hf;exact hf
 ·have hR:WS=(X.1,X.2,true):=by rw [HWS.out,if_neg hz]
  subst hR;have ht:(TD.toList==TZ.toList)=false:=by rw [HCMP.out,zsC hz]
  clear hz HWS HCMP d5
  go_region_law (go_simp;go_at_call 163;(with_reducible refine (KZ.out _).mono ?_);rintro q w2 ⟨rfl,b2⟩)
  all_goals
   have HB2:=zh (HB1.out.drew.trans (b2.mono HB1.out.size));have hB12:Below w1.heap.size w1 w2:=((Below.refl _ w1).drew).trans b2;have H32:w2.heap[b3]?=some (.cells #[.pointer (some ⟨g,0,none⟩)] 24 (0,0)):=(hB12.block _ (zgx H31.out)).trans H31.out;have H42:w2.heap[b4]?=some (.cells (rgc at_ m v) 138 (0,0)):=(hB12.block _ (zgx H41.out)).trans H41.out;have H72:w2.heap[b7]?=some (.cells #[.bool b] 4 (0,0)):=(hB12.block _ (zgx H71.out)).trans H71.out;have hfz:w2.frozen? ⟨b7,0,none⟩=false:=zsV H72 0;have hc7:w2.cell? ⟨b7,0,none⟩=some (.bool b):=zcr w2 b7 0 _ 4 (0,0) H72;have HD2:=zh (HD1.out.below hB12);obtain ⟨W8,hW8⟩:∃ W8,W8=w2.setCell ⟨b7,0,none⟩ (.bool true):=⟨_,rfl⟩;have H38:Hid (W8.heap[b3]?=some (.cells #[.pointer (some ⟨g,0,none⟩)] 24 (0,0))):=by show _=_;rw [hW8,zsQ _ _ _ _ n3];exact H32
   have H48:Hid (W8.heap[b4]?=some (.cells (rgc at_ m v) 138 (0,0))):=by show _=_;rw [hW8,zsQ _ _ _ _ n4];exact H42
   have H78:Hid (W8.heap[b7]?=some (.cells #[.bool true] 4 (0,0))):=by show _=_;rw [hW8];exact zaC H72 0 _
   have HD8:Hid (Dv W8.drew g L d):=HD2.out.of_heap (fun j hj=>by rw [hW8];exact zsQ _ _ _ _ (fun e=>hL (by rw [←show j=b7 from e];exact hj)))
   have HK8:Hid (zau (b7 :: L) w W8.drew):=by
    have hk:zau (b7 :: L) w2 W8:=by rw [hW8];exact zau.setCell (p:=⟨b7,0,none⟩) (by simp) _
    have:=(zau.of_below (L:=b7 :: L) HB2.out).trans hk
    exact ⟨this.os,this.tape,this.output,this.size,this.block⟩
   have HS8:Hid (w.heap.size≤W8.drew.heap.size):=HK8.out.size;have HN7:Hid (b7<W8.heap.size):=(zgx H78.out);clear hB12 H32 H42 H72 b2
   go_upto_region 8 with fail
   refine zaf (w:=W8) hW8.symm ?_;have f3:W8.drew.cell? ⟨b3,0,none⟩=some (.pointer (some ⟨g,0,none⟩)):=zcr W8.drew b3 0 _ 24 (0,0) H38.out;have f4:W8.drew.cell? ⟨b4,0,none⟩=some (.int .i64 at_):=zcr W8.drew b4 0 _ 138 (0,0) H48.out;clear hfz hc7 hW8
   go_region_law (go_simp;go_at_call 69;(with_reducible refine (KW.out _ HD8.out).mono ?_);rintro q w9 ⟨rfl,hM⟩)
   all_goals
    go_wp2;go_ret;obtain ⟨L',m1,m2,m3⟩:=hM;refine ⟨rfl,L',m1,HK8.out.trans (m2.mono (fun x hx=>by simp [hx])),(zaT.refl w L).trans m3 HS8.out,?_,?_⟩
    ·exact (m2.block _ HN7.out hL).trans H78.out
    ·intro hm7;rcases m3 _ hm7 with h|h
     ·exact hL h
     ·have:=HN7.out
      have h':W8.heap.size≤b7:=h;omega
end
section
open Dk
theorem zmP (a b c f:Value) (fro til:Nat) (P:Nat→World→Prop) (R:Int→World→Prop) (w:World) (hft:fro≤til) (hto:til≤1099511627776) (h0:P fro w)
 (hs:∀ k w1,fro≤k→k<til→P k w1→Calls Tryz.prog 187 #[.int .i64 k,a,b,c,f] w1 fun e w'=>∃ z:Int,e=.returned (.int .i64 z)∧(z=0→P (k+1) w')∧(z≠0→R z w')) :
 Calls Tryz.prog 184 #[.int .i64 fro,.int .i64 til,.func (.func 187) #[] #[a,b,c,f]] w fun e w'=>∃ z:Int,e=.returned (.int .i64 z)∧(z=0→P til w')∧(z≠0→R z w'):=by
 have HS:=zh hs;have H0:=zh h0;clear hs h0;go_enter Tryz.func184,Tryz.ntmps184;go_wp2
 go_loopw [7] (fun i wr=>∃ k:Nat,i=.int .i64 k∧fro≤k∧k≤til∧Hid (P k wr)) (fun i _=>til-(Go.RowKit.intOf i).toNat)
 case atStart=>exact ⟨fro,rfl,zsy _,hft,H0⟩
 case round =>
  obtain ⟨k,rfl,hk1,hk2,hP⟩:=hrel
  by_cases hlt:k<til
  ·have t1:decide ((k:Int)<(til:Int))=true:=zsD (by omega);have K:=zh (HS.out k wr hk1 hlt hP.out)
   go_upto_region 5 with fail
   refine K.out.mono ?_;rintro q w1 ⟨z,rfl,hz0,hz1⟩;clear K hP
   by_cases hz:z=0
   ·have Z0:Hid (P (k+1) w1):=hz0 hz;clear hz0 hz1;subst hz;go_wp2
    go_roundw
    case rel=>exact ⟨k+1,by go_num,by omega,by omega,Z0⟩
    case measure=>simp [Go.RowKit.intOf];omega
   ·have Z1:=zh (hz1 hz);clear hz0 hz1;have e1:(z==0)=false:=zcG hz;have e2:(z != 0)=true:=by unfold bne;rw [e1];rfl
    go_wp2;go_ret;exact ⟨z,rfl,fun h=>absurd h hz,fun _=>Z1.out⟩
  ·have hkt:k=til:=by omega
   subst hkt;have t1:decide ((k:Int)<(k:Int))=false:=zsC (by omega);go_wp2;go_ret;exact ⟨0,rfl,fun _=>hP.out,fun h=>absurd rfl h⟩
def wiL (at_ u:Nat):Nat→Nat→St→Bool→St×Int×Bool
 | 0,_,d,b=>(d,0,b)
 | r+1,k,d,b=>if (zaS d at_ u k).2.1=0 then wiL at_ u r (k+1) (zaS d at_ u k).1 (b||(zaS d at_ u k).2.2) else ((zaS d at_ u k).1,(zaS d at_ u k).2.1,b||(zaS d at_ u k).2.2)
def wipG (d:St) (at_ m u:Nat):St×Int :=
 if (wiL at_ u (m-u / 64) (u / 64) d false).2.1≠0∨(wiL at_ u (m-u / 64) (u / 64) d false).2.2=false then ((wiL at_ u (m-u / 64) (u / 64) d false).1,(wiL at_ u (m-u / 64) (u / 64) d false).2.1) else (wiL at_ u (m-u / 64) (u / 64) d false).1.flush
def zmQ (d:St) (at_ m:Nat) (v u:Int):St×Int:=if onB d.n at_ m v=true∧zbx m u=true then wipG d at_ m u.toNat else (d,1)
end
section
open Dk
theorem zrM (g:Nat) (L:List Nat) (d:St) (at_ m U b3 b7:Nat) (v:Int) (w W:World) (T:St×Int×Bool) (hT:T=wiL at_ U (m-U / 64) (U / 64) d false) (hb:Below w.heap.size w W) (h:Dv w g L d) (e3:b3=w.heap.size) (h3:W.heap[b3]?=some (.cells #[ptr g] 24 (0,0)))
 (h4:W.heap[b3+1]?=some (.cells (rgc at_ m v) 138 (0,0))) (h5:W.heap[b3+1+1]?=some (.cells #[.int .i64 U] 3 (0,0))) (h7:W.heap[b7]?=some (.cells #[.bool false] 4 (0,0))) (hb7:b3+1+1<b7) (ha:at_≤1048576) (hm:m≤1048576) (hU:U≤m*64) :
 Calls Tryz.prog 184 #[.int .i64 (U / 64:Nat),.int .i64 m,.func (.func 187) #[] #[ptr b3,ptr (b3+1),ptr (b3+1+1),ptr b7]] W fun e w'=>e=.returned (.int .i64 T.2.1)∧∃ L',Dv w' g L' T.1∧zau (b7 :: L) W w'∧zaT W L L'∧w'.heap[b7]?=some (.cells #[.bool T.2.2] 4 (0,0))∧b7∉L':=by
 have hLw:=h.lt;have hn7:b7∉L:=fun hm=>by have:=hLw _ hm;omega
 have hD:=h.below hb
 refine (zmP (ptr b3) (ptr (b3+1)) (ptr (b3+1+1)) (ptr b7) (U / 64) m
  (fun k w1=>∃ L' d' b,Dv w1 g L' d'∧zau (b7 :: L) W w1∧zaT W L L'∧w1.heap[b7]?=some (.cells #[.bool b] 4 (0,0))∧b7∉L'∧wiL at_ U (m-k) k d' b=T)
  (fun z w1=>z=T.2.1∧∃ L',Dv w1 g L' T.1∧zau (b7 :: L) W w1∧zaT W L L'∧w1.heap[b7]?=some (.cells #[.bool T.2.2] 4 (0,0))∧b7∉L') W (by omega) (by omega) ⟨L,d,false,hD,zau.refl _ _,zaT.refl _ _,h7,hn7,hT.symm⟩ ?_).mono ?_
 ·rintro k w1 hk0 hk ⟨L1,d1,b,hD1,hK1,hF1,h71,hn1,hw1⟩
  have hst:wiL at_ U (m-k) k d1 b=if (zaS d1 at_ U k).2.1=0 then wiL at_ U (m-(k+1)) (k+1) (zaS d1 at_ U k).1 (b||(zaS d1 at_ U k).2.2) else ((zaS d1 at_ U k).1,(zaS d1 at_ U k).2.1,b||(zaS d1 at_ U k).2.2):=by
   rw [show m-k=(m-(k+1))+1 by omega];rfl
  rw [hw1] at hst
  have hbl:∀ j,w.heap.size≤j→j<W.heap.size→j≠b7→w1.heap[j]?=W.heap[j]?:=fun j a1 a2 a3=>hK1.block j a2 fun hm=>by
   rcases zsL.1 hm with e|hm
   ·exact a3 e
   ·have:=hLw _ hm;omega
  refine (zoP g L1 d1 b3 (b3+1) (b3+1+1) b7 at_ U k m v b w1 hD1 ((hbl b3 (by omega) (zgx h3) (by omega)).trans h3) ((hbl (b3+1) (by omega) (zgx h4) (by omega)).trans h4) ((hbl (b3+1+1) (by omega) (zgx h5) (by omega)).trans h5) h71 (by omega) (by omega) hn1 ha (by omega) (by omega) (by omega)).mono ?_;rintro e w2 ⟨rfl,L2,hD2,hK2,hF2,h72,hn2⟩
  have hF12:zaT W (b7 :: L) (b7 :: L1):=fun j hj=>by
   rcases zsL.1 hj with e|hj
   ·exact .inl (by rw [e];simp)
   ·exact (hF1 j hj).elim (fun h=>.inl (zsA _ h)) .inr
  have hK3:zau (b7 :: L) W w2:=hK1.trans' hK2 hF12;have hF3:zaT W L L2:=hF1.trans hF2 hK1.size;refine ⟨_,rfl,fun hz=>?_,fun hz=>?_⟩
  ·rw [if_pos hz] at hst;exact ⟨L2,_,_,hD2,hK3,hF3,h72,hn2,hst.symm⟩
  ·rw [if_neg hz] at hst;rw [hst];exact ⟨rfl,L2,hD2,hK3,hF3,h72,hn2⟩
 ·rintro e w1 ⟨z,rfl,hz0,hz1⟩
  by_cases hz:z=0
  ·obtain ⟨L1,d1,b,hD1,hK1,hF1,h71,hn1,hw1⟩:=hz0 hz;rw [Nat.sub_self] at hw1;have hT2:T=(d1,0,b):=hw1.symm;rw [hT2];exact ⟨by rw [hz],L1,hD1,hK1,hF1,h71,hn1⟩
  ·obtain ⟨h1,h2⟩:=hz1 hz;exact ⟨by rw [h1],h2⟩
theorem zmR {L:List Nat} {b:Nat} {w W w':World} (hb:Below w.heap.size w W) (hk:zau (b :: L) W w') (hbw:w.heap.size≤b):zau L w w' :=
 ⟨hk.os.trans hb.os,hk.tape.trans hb.tape,hk.output.trans hb.output,zsB hb.size hk.size,fun k hk1 hk2=>(hk.block k (zs8 hk1 hb.size) (fun hm=>by
  rcases zsL.1 hm with e|hm
  ·omega
  ·exact hk2 hm)).trans (hb.block k hk1)⟩
theorem zmS (g:Nat) (L:List Nat) (d:St) (at_ m:Nat) (v u:Int) (w:World) (h:Dv w g L d) (ha:at_≤1048576) (hm:m≤1048576) :
 Calls Tryz.prog 124 #[ptr g,RG at_ m v,.int .i64 u] w fun e w'=>e=.returned (.int .i64 (zmQ d at_ m v u).2)∧zav g L (zmQ d at_ m v u).1 w w':=by
 obtain ⟨W,hW⟩:∃ W,W=((w.alloc (.cells #[ptr g] 24)).alloc (.cells (rgc at_ m v) 138)).alloc (.cells #[.int .i64 u] 3):=⟨_,rfl⟩;have hB:Below w.heap.size w W:=by rw [hW];exact (((Below.refl _ w).alloc (zsy _) _).alloc (by simp) _).alloc (by simp;omega) _
 have hc3:W.heap[w.heap.size]?=some (.cells #[ptr g] 24 (0,0)):=by rw [hW];exact (zkJ w _ _ _).1
 have hc4:W.heap[w.heap.size+1]?=some (.cells (rgc at_ m v) 138 (0,0)):=by rw [hW];exact (zkJ w _ _ _).2.1
 have hc5:W.heap[w.heap.size+1+1]?=some (.cells #[.int .i64 u] 3 (0,0)):=by rw [hW];exact (zkJ w _ _ _).2.2
 have K1:=zh (zgW g L d at_ m v W (h.below hB) ha hm);have K2:=zh (fun W=>zjH at_ v u m W hm);obtain ⟨WP,hWP⟩:∃ x,x=zmQ d at_ m v u:=⟨_,rfl⟩;rw [←hWP];unfold zmQ at hWP;obtain ⟨b1,hb1⟩:∃ b,b=onB d.n at_ m v:=⟨_,rfl⟩;obtain ⟨b2,hb2⟩:∃ b,b=zbx m u:=⟨_,rfl⟩;rw [←hb1] at K1 hWP;rw [←hb2] at K2 hWP;have fin:Hid (∀ W',Below w.heap.size w W'→zav g L d w W'):=fun W' hb=>⟨L,h.below hb,zau.of_below hb,zaT.refl _ _⟩;have HB:=zh hB;have HW:=zh hW;have H3:=zh hc3;have H4:=zh hc4;have H5:=zh hc5;have HWP:=zh hWP;have HD:=zh h;have c3:W.cell? ⟨w.heap.size,0,none⟩=some (ptr g):=zcr W _ 0 _ 24 (0,0) hc3;have c5:W.cell? ⟨w.heap.size+1+1,0,none⟩=some (.int .i64 u):=zcr W _ 0 _ 3 (0,0) hc5;obtain ⟨c40,c41,c42⟩:=zaO hc4;clear hB hW hc3 hc4 hc5 hWP hb1 h;have hu0:=hb2;unfold ptr at *
 cases b1 with
 | false =>
   obtain rfl:WP=(d,1):=by rw [HWP.out,if_neg (by simp)]
   clear HWP hb2 hu0;go_enter Tryz.func124,Tryz.ntmps124
   go_upto_region 1 with fail
   refine zaf (w:=W) HW.out.symm ?_
   go_wp2_with (go_at_call 139;(with_reducible refine K1.out.mono ?_);rintro q w1 ⟨rfl,b1⟩)
   go_ret;exact ⟨rfl,fin.out _ (HB.out.trans (b1.mono HB.out.size))⟩
 | true =>
   cases b2 with
   | false =>
     obtain rfl:WP=(d,1):=by rw [HWP.out,if_neg (by simp)]
     clear HWP hb2 hu0;go_enter Tryz.func124,Tryz.ntmps124
     go_upto_region 1 with fail
     refine zaf (w:=W) HW.out.symm ?_
     go_wp2_with (first
      | (go_at_call 139;(with_reducible refine K1.out.mono ?_);rintro q w1 ⟨rfl,b1⟩;have HB1:=zh (HB.out.trans (b1.mono HB.out.size));obtain ⟨e0,e1,e2⟩:=zaO ((b1.block _ (zgx H4.out)).trans H4.out);have e5:w1.cell? ⟨w.heap.size+1+1,0,none⟩=some (.int .i64 u):=zcr w1 _ 0 _ 3 (0,0) ((b1.block _ (zgx H5.out)).trans H5.out);clear b1)
      | (go_at_call 140;(with_reducible refine (K2.out _).mono ?_);rintro q w2 ⟨rfl,b2⟩))
     go_ret;exact ⟨rfl,fin.out _ (HB1.out.trans (b2.mono HB1.out.size))⟩
   | true =>
     have hu:0≤u∧u≤((m*64:Nat):Int):=of_decide_eq_true hb2.symm;obtain ⟨U,rfl⟩:=zsM hu.1;have hU:U≤m*64:=by omega
     obtain ⟨T,hT⟩:∃ T,T=wiL at_ U (m-U / 64) (U / 64) d false:=⟨_,rfl⟩
     have HW2:Hid (WP=if T.2.1≠0∨T.2.2=false then (T.1,T.2.1) else T.1.flush):=by
      show _=_;rw [HWP.out,if_pos ⟨rfl,rfl⟩,zsK,hT];rfl
     have KEY:=zh (fun (W1:World) (b7:Nat) (hb:Below w.heap.size w W1) (h3:W1.heap[w.heap.size]?=some (.cells #[.pointer (some ⟨g,0,none⟩)] 24 (0,0))) (h4:W1.heap[w.heap.size+1]?=some (.cells (rgc at_ m v) 138 (0,0))) (h5:W1.heap[w.heap.size+1+1]?=some (.cells #[.int .i64 U] 3 (0,0))) (h7:W1.heap[b7]?=some (.cells #[.bool false] 4 (0,0))) (hb7:w.heap.size+1+1<b7)=>zrM g L d at_ m U w.heap.size b7 v w W1 T hT hb HD.out rfl h3 h4 h5 h7 hb7 ha hm hU);have KF:=zh (fun (L':List Nat) (W1:World) (h:Dv W1 g L' T.1)=>zd2 g L' T.1 W1 h);have i1:((U / 64:Nat):Int)=(U:Int) / 64:=by omega
     rw [i1] at KEY;clear HWP hb2 hu0 hT i1 hu;unfold ptr at *;go_enter Tryz.func124,Tryz.ntmps124
     go_upto_region 1 with fail
     refine zaf (w:=W) HW.out.symm ?_
     go_upto_region 3 with (first
      | (go_at_call 139;(with_reducible refine K1.out.mono ?_);rintro q w1 ⟨rfl,b1⟩;have HB1:=zh (HB.out.trans (b1.mono HB.out.size));have H31:=zh ((b1.block _ (zgx H3.out)).trans H3.out);have H41:=zh ((b1.block _ (zgx H4.out)).trans H4.out);have H51:=zh ((b1.block _ (zgx H5.out)).trans H5.out);obtain ⟨e0,e1,e2⟩:=zaO H41.out;have e5:w1.cell? ⟨w.heap.size+1+1,0,none⟩=some (.int .i64 U):=zcr w1 _ 0 _ 3 (0,0) H51.out;clear b1)
      | (go_at_call 140;(with_reducible refine (K2.out _).mono ?_);rintro q w2 ⟨rfl,b2⟩))
     have HB2:=zh (HB1.out.trans (b2.mono HB1.out.size));have H32:=zh ((b2.block _ (zgx H31.out)).trans H31.out);have H42:=zh ((b2.block _ (zgx H41.out)).trans H41.out);have H52:=zh ((b2.block _ (zgx H51.out)).trans H51.out);clear b2 c3 c5 c40 c41 c42 e0 e1 e2 e5;obtain ⟨P,hP⟩:∃ P,P=w2.heap.size:=⟨_,rfl⟩;have hPs:w.heap.size+1+1<P:=by rw [hP];exact (zgx H52.out)
     obtain ⟨W3,hW3⟩:∃ W3,W3=w2.alloc (.cells #[.bool false] 4):=⟨_,rfl⟩;have HB3:Hid (Below w.heap.size w W3):=by show Below _ _ _;rw [hW3];exact HB2.out.alloc HB2.out.size _
     have H33:Hid (W3.heap[w.heap.size]?=some (.cells #[.pointer (some ⟨g,0,none⟩)] 24 (0,0))):=by show _=_;rw [hW3];exact (zsG _ _ _ (zgx H32.out)).trans H32.out
     have H43:Hid (W3.heap[w.heap.size+1]?=some (.cells (rgc at_ m v) 138 (0,0))):=by show _=_;rw [hW3];exact (zsG _ _ _ (zgx H42.out)).trans H42.out
     have H53:Hid (W3.heap[w.heap.size+1+1]?=some (.cells #[.int .i64 U] 3 (0,0))):=by show _=_;rw [hW3];exact (zsG _ _ _ (zgx H52.out)).trans H52.out
     have H73:Hid (W3.heap[P]?=some (.cells #[.bool false] 4 (0,0))):=by show _=_;rw [hW3,hP];exact zsz w2 _
     have KK:=zh (KEY.out W3 P HB3.out H33.out H43.out H53.out H73.out hPs);have c5:W3.cell? ⟨w.heap.size+1+1,0,none⟩=some (.int .i64 U):=zcr W3 _ 0 _ 3 (0,0) H53.out;obtain ⟨c40,c41,c42⟩:=zaO H43.out
     go_upto_region 4 with fail
     refine zaf (w:=W3) hW3.symm ?_;rw [←hP];clear hW3 hP KEY
     go_upto_region 5 with (go_at_call 184;(with_reducible refine KK.out.mono ?_);rintro q w5 ⟨rfl,L5,hD5,hK5,hF5,h75,hn5⟩)
     have HKL:Hid (zau L w w5):=zmR HB3.out hK5 (by omega);have HFL:Hid (zaT w L L5):=fun k hk=>(hF5 k hk).elim .inl (fun h=>.inr (zsB HB3.out.size h));have HD5:=zh hD5;have HS5:Hid (w.heap.size≤w5.heap.size):=HKL.out.size
     have h35:w5.heap[w.heap.size]?=some (.cells #[.pointer (some ⟨g,0,none⟩)] 24 (0,0)):=(hK5.block _ (zgx H33.out) (fun hm=>by
      rcases zsL.1 hm with e|hm
      ·omega
      ·have:=HD.out.lt _ hm;omega)).trans H33.out
     have f3:w5.cell? ⟨w.heap.size,0,none⟩=some (.pointer (some ⟨g,0,none⟩)):=zcr w5 _ 0 _ 24 (0,0) h35;have f7:w5.cell? ⟨P,0,none⟩=some (.bool T.2.2):=zcr w5 _ 0 _ 4 (0,0) h75;clear hD5 hK5 hF5 h75 hn5 h35 c40 c41 c42 c5;obtain ⟨t1,t2,t3⟩:=T;dsimp only at *
     by_cases hz:t2=0
     rotate_left
     ·have q1:(t2==0)=false:=zcG hz;have q2:(t2 != 0)=true:=by unfold bne;rw [q1];rfl
      obtain rfl:WP=(t1,t2):=by rw [HW2.out,if_pos (.inl hz)]
      clear hz HW2;go_wp2;go_ret;exact ⟨rfl,L5,HD5.out,HKL.out,HFL.out⟩
     subst hz
     cases t3 with
     | false =>
       obtain rfl:WP=(t1,0):=by rw [HW2.out,if_pos (.inr rfl)]
       clear HW2;go_wp2;go_ret;exact ⟨rfl,L5,HD5.out,HKL.out,HFL.out⟩
     | true =>
       obtain rfl:WP=t1.flush:=by rw [HW2.out,if_neg (by simp)]
       clear HW2
       go_wp2_with (go_at_call 82;(with_reducible refine (KF.out _ _ HD5.out).mono ?_);rintro q w6 ⟨rfl,hM⟩)
       go_ret;obtain ⟨L6,m1,m2,m3⟩:=hM;exact ⟨rfl,L6,m1,HKL.out.trans' m2 HFL.out,HFL.out.trans m3 HS5.out⟩
end
end Go.Proofs.YtidndekacnmihaaGreat
