/- Parts of a proof. -/
import Derived.Test.YtidndekacnmihaaGreatC43
set_option linter.all false
set_option maxHeartbeats 8000000
set_option maxRecDepth 100000
namespace Go.Proofs.YtidndekacnmihaaGreat
open Bool renaming false→U
open Ending renaming returned→X
open Go renaming Calls→V,Value→Y
open Go.RowKit renaming Below→T
open Go.RowKit.Below renaming refl→qc
open IntKind renaming u64→z,i64→I
open Obj renaming cells→G
open Option renaming some→C,none→E
open Tryz renaming prog→Q
open Value renaming int→y,string→F,agg→R,slice→S,pointer→qd
open Tryz hiding t4
variable {B base c cap fuel len:Nat} {A:Option Addr} {W w:World} {a:Addr} {P:Program} {sp:Nat→Bool} {held:Bool} {v:Y}
open Go.RowKit
section
open Dk
open Ar (Sn sn0 snS snO)
open J.Sl (Su Hd su0 hd0 sec rgt zbn hB hO)
theorem zsk {n:Nat} {es:List En} (hl:Le B A n c es W):∃ K2,(∀ q∈K2,W.heap[q.1]?=C q.2∧B≤q.1)∧Lg B K2 A n c es:=by
 rcases hl.own.2 with ⟨hv,h0⟩|⟨gb,cap,cur,hv,h1,h2,h3⟩
 ·exact ⟨[],fun q hq=>(by cases hq),fun Z _=>⟨⟨hl.own.1,.inl ⟨hv,h0⟩⟩,hl.len⟩⟩
 ·refine ⟨[(gb,G cur 69 (0,0))],fun q hq=>?_,fun Z hz=>⟨⟨hl.own.1,.inr ⟨gb,cap,cur,hv,h1,hz (gb,G cur 69 (0,0)) (by simp),h3⟩⟩,hl.len⟩⟩;simp at hq;rw [hq];exact ⟨h2,h1⟩
theorem zp9 (s:Sn) (ok:s.Ok):(tdS s).da.size≤200:=by
 show (s.da.extract 0 (min s.da.size 200)).size≤200;rw [zue];omega
theorem zsl (s:Sn) (ok:s.Ok):(tdS s).Ok:=⟨by show s.ix % 1000<_;omega,ok.t,by have:=zp9 s ok;omega⟩
theorem zl8 {N k:Nat} {es:List En} (h:zcx B (C a) N es W) (hk:k+1≤N) (hc:N≤c):zcx B (if c=k+1 then C a else C (a.add ((k+1)*11))) (N-(k+1)) (es.drop (k+1)) W :=
 ⟨by rw [zuh,h.len],fun i e he=>by
  rw [List.getElem?_drop] at he;obtain ⟨x,hx,hb,hcl⟩:=h.at_ _ e he;obtain rfl:a=x:=by injection hx
  have hlt:=(List.getElem?_eq_some_iff.1 he).1;rw [h.len] at hlt;rw [if_neg (by omega)];refine ⟨_,rfl,by rw [za8];exact hb,fun j hj=>?_⟩;rw [←hcl j hj]
  have ea:(a.add ((k+1)*11)).add (i*11)=a.add ((k+1+i)*11):=by
   rw [Addr.add_add]
   congr 1
   omega
  rw [ea]⟩
theorem zqa (a b c d e f g:Y) (w:World):(Instr.field 65 (R #[a,b,c,d,e,f,g]) 3).run Q w=.ok d w:=by kernel_rfl
theorem zqb (a b c d e f g:Y) (w:World):(Instr.field 65 (R #[a,b,c,d,e,f,g]) 4).run Q w=.ok e w:=by kernel_rfl
theorem zqc (a b:Int) (d:ByteArray) (w:World):(binOp .eql 43 (R #[y z a,y z b,F d]) (R #[y z a,y z b,F d])).run Q w=.ok (.bool true) w:=by
 go_simp
theorem lcompI_any (s:Sn) (A:Option Addr) (n c:Nat) (L:List (En×Bool)) (at_:Nat) (other:Bool) (w:World) (sok:s.Ok) (hL:zdr w.heap.size A n L w) (hok:∀ p∈L,p.1.Ok) (hA:A=E→n=0∧c=0) (hn:(n+1)*112≤140737488355328) (hat:at_<256) :
 V Q 6 #[s.v,S A n c,y .u8 at_,.bool other] w fun e w'=>e=X (.bool true)∧T w.heap.size w w':=by
 obtain ⟨t0,ht0⟩:∃ t0,t0=tdS s:=⟨_,rfl⟩;have tok:t0.Ok:=by rw [ht0];exact zsl s sok
 have tda:t0.da.size≤200:=by rw [ht0];exact zp9 s sok
 have tix:t0.ix<1000:=by rw [ht0];show s.ix % 1000<1000;omega
 obtain ⟨es,hes⟩:∃ es,es=cmE t0.ix L:=⟨_,rfl⟩;have hlen:1≤es.length∧es.length≤6:=by rw [hes];exact zml
 have hgood:∀ e∈es,zfK 2 e:=by rw [hes];exact zjG (.inr rfl) hok tix
 have hct:∀ i e,es[i]?=C e→e.index=((t0.ix+i+1:Nat):Int):=by rw [hes];exact zsv
 have hsz:(rcA 2 (pS 2) es).size≤2560:=by rw [hes];exact zoO hok tix
 have htm:∀ (i:Nat) (e:En),es[i]?=C e→1≤e.term∧e.term≤1000:=by rw [hes];exact fun i e h=>zoP h
 have hts:=zmm tda tok.i tok.t;obtain ⟨W1,hW1⟩:∃ W1,W1=w.alloc (G #[y z s.ix,y z s.tm,F s.da] 43):=⟨_,rfl⟩;have hB1:T w.heap.size w W1:=by rw [hW1];exact zba
 have h41:W1.heap[w.heap.size]?=C (G #[y z s.ix,y z s.tm,F s.da] 43 (0,0)):=by rw [hW1];exact ztJ w _
 have K10:=zh (fun W=>zhX W)
 have K20:Hid (∀ W,V Q 20 #[R #[y z 0,y I 0,y z 0],R #[y z s.ix,y z s.tm,F s.da]] W fun x w'=>x=X (.tuple #[R #[y z 0,y I 0,y z 0],R #[y z t0.ix,y z t0.tm,F t0.da]])∧T W.heap.size W w'):=fun W=>by
  rw [ht0];exact zmg s sok W
 have K21:Hid (∀ g c2 W,zdr W.heap.size (C ⟨g,0,E⟩) (n+1) ((ezz,U) :: L) W→V Q 21 #[S (C ⟨g,0,E⟩) (n+1) c2,y z t0.ix,y I 6,y I 1] W fun q w'=>∃ A' n' c',q=X (S A' n' c')∧Le W.heap.size A' n' c' es w'∧T W.heap.size W w'):=fun g c2 W h=>by
  rw [hes];exact zkT _ (n+1) c2 t0.ix 6 1 _ W h (zmj hok) (by omega) (by omega) (by omega)
 have HW1:=zh hW1;have HB1:=zh hB1;have H41:=zh h41;have HL:=zh hL;have HA:=zh hA;have HN:=zh hn;have HLEN:=zh hlen;have HGOOD:=zh hgood;have HCT:=zh hct;have HSZ:=zh hsz;have HTM:=zh htm;have HTS:=zh hts;have TOK:=zh tok;have TIX:=zh tix;have TDA:=zh tda;clear ht0 hes hlen hgood hct hsz htm hts tok tix tda hW1 hB1 h41 hL hA hn sok hok;go_enter func6,ntmps6
 go_upto_region 1 with fail
 refine zaf (w:=W1) HW1.out.symm ?_
 go_upto_region 4 with (go_at_call 10;(with_reducible refine (K10.out _).mono ?_);rintro q w2 ⟨rfl,b2⟩)
 have HB2:=zh (HB1.out.trans (b2.mono HB1.out.size));have H42:=zh ((b2.block _ (zgx H41.out)).trans H41.out);clear b2 H41 HB1;have c0:w2.cell? ⟨w.heap.size,0,E⟩=C (y z s.ix):=zcr w2 _ 0 _ 43 (0,0) H42.out;have c1:w2.cell? ⟨w.heap.size,1,E⟩=C (y z s.tm):=zcr w2 _ 1 _ 43 (0,0) H42.out;have c2:w2.cell? ⟨w.heap.size,2,E⟩=C (F s.da):=zcr w2 _ 2 _ 43 (0,0) H42.out
 go_upto_region 5 with (go_at_call 20;(with_reducible refine (K20.out _).mono ?_);rintro q w3 ⟨rfl,b3⟩;have H43:=zh ((b3.block _ (zgx H42.out)).trans H42.out);have HB3:=zh (HB2.out.trans (b3.mono HB2.out.size));clear b3;have d0:w3.cell? ⟨w.heap.size,0,E⟩=C (y z s.ix):=zcr w3 _ 0 _ 43 (0,0) H43.out;have d1:w3.cell? ⟨w.heap.size,1,E⟩=C (y z s.tm):=zcr w3 _ 1 _ 43 (0,0) H43.out;have d2:w3.cell? ⟨w.heap.size,2,E⟩=C (F s.da):=zcr w3 _ 2 _ 43 (0,0) H43.out;obtain ⟨f0,f1,f2⟩:=zhs H43.out)
 obtain ⟨x1,x2,x3⟩:=zbt w.heap.size 43 [(0,y z t0.ix),(1,y z t0.tm),(2,F t0.da)] w3 _ H43.out;simp only [setc,zA,zB,zC] at x1;have x4:=x3 w.heap.size w HB3.out (ztI _);generalize hW4:(((w3.setCell ⟨w.heap.size,0,E⟩ (y z t0.ix)).setCell ⟨w.heap.size,1,E⟩ (y z t0.tm)).setCell ⟨w.heap.size,2,E⟩ (F t0.da))=W4
 have hset:setl w.heap.size [(0,y z t0.ix),(1,y z t0.tm),(2,F t0.da)] w3=W4:=by
  rw [←hW4];simp only [setl]
 rw [hset] at x1 x4;have H44:=zh x1;have HB4:=zh x4;clear x1 x2 x3 x4 hset hW4 d0 d1 d2 f0 f1 f2 c0 c1 c2;have hs4:=HB4.out.size;have hs5:w.heap.size+1≤W4.heap.size:=(zgx H44.out)
 have hown:Hid ((W4.alloc (G (mdc ezz U) 76)).ownsRow (w.heap.size+1) 76 12 (S (C ⟨W4.heap.size,0,E⟩) 1 1) 1 (zck [(ezz,U)])):=by
  have h:=World.ownsRow_lit (base:=w.heap.size+1) (e:=76) (size:=12) W4 (mdc ezz U) 1 hs5 (by unfold maxLen;omega) rfl;exact h
 have hb5:T w.heap.size w (W4.alloc (G (mdc ezz U) 76)):=HB4.out.alloc hs4 _;have HM5:Hid (zdr (W4.alloc (G (mdc ezz U) 76)).heap.size A n L (W4.alloc (G (mdc ezz U) 76))):=(HL.out.below hb5).mr hb5.size;have HB5:=zh hb5;have HS5:Hid (w.heap.size+1≤(W4.alloc (G (mdc ezz U) 76)).heap.size):=by show _≤_;rw [ztR];omega
 have H45:Hid ((W4.alloc (G (mdc ezz U) 76)).heap[w.heap.size]?=C (G #[y z t0.ix,y z t0.tm,F t0.da] 43 (0,0))):=(ztQ _ _ _ (zgx H44.out)).trans H44.out;clear hb5 hs4 hs5
 go_upto_region 6 with (at_builtin;refine zeD rfl _ _ rfl _ (w.heap.size+1) W4.heap.size (ezz,U) A n c L rfl rfl hown.out HM5.out HA.out HN.out HS5.out ?_;intro g c2 w5 hown5 hb5)
 have H46:Hid (w5.heap[w.heap.size]?=C (G #[y z t0.ix,y z t0.tm,F t0.da] 43 (0,0))):=(hb5.block _ (Nat.lt_succ_self _)).trans H45.out;have HB6:Hid (T w.heap.size w w5):=HB5.out.trans (hb5.mono (Nat.le_succ _));have HM6:Hid (zdr w5.heap.size (C ⟨g,0,E⟩) (n+1) ((ezz,U) :: L) w5):=zmi hown5 (by rw [zud,HM5.out.len]);clear hown5 hb5 hown HM5 H45 HB5 HS5 HB4 H44 HL HA HN H43 HB3 HB2 H42 K20 K10;have c0:w5.cell? ⟨w.heap.size,0,E⟩=C (y z t0.ix):=zcr w5 _ 0 _ 43 (0,0) H46.out
 go_upto_region 7 with (go_at_call 21;(with_reducible refine (K21.out _ _ _ HM6.out).mono ?_);rintro q w6 ⟨A6,n6,c6,rfl,hL6,b6⟩)
 obtain rfl:es.length=n6:=hL6.len
 have hnc:es.length≤c6:=by
  rcases hL6.own.2 with ⟨hv,h0⟩|⟨gb,cap,cur,hv,_,_,h3,_⟩
  ·omega
  ·injection hv with _ _ hc;omega
 obtain ⟨K2,k1,k2⟩:=zsk hL6;have HB7:=zh (HB6.out.trans (b6.mono HB6.out.size));have H47:w6.heap[w.heap.size]?=C (G #[y z t0.ix,y z t0.tm,F t0.da] 43 (0,0)):=(b6.block _ (zgx H46.out)).trans H46.out;obtain ⟨K',hK'⟩:∃ K':List (Nat×Obj),K'=(w.heap.size,G #[y z t0.ix,y z t0.tm,F t0.da] 43 (0,0)) :: K2:=⟨_,rfl⟩
 have hk6:∀ q∈K',w6.heap[q.1]?=C q.2∧w.heap.size≤q.1:=fun q hq=>by
  rw [hK'] at hq;rcases ztT.1 hq with rfl|hq
  ·exact ⟨H47,ztI _⟩
  ·exact ⟨(k1 q hq).1,ztL HB6.out.size (k1 q hq).2⟩
 have RD:Hid (zcO K' A6 es.length es):=k2.rd.sub fun q hq=>by rw [hK'];simp [hq]
 have HC4:Hid (∀ Z,Bk K' Z→Z.heap[w.heap.size]?=C (G #[y z t0.ix,y z t0.tm,F t0.da] 43 (0,0))):=fun Z hz=>hz (w.heap.size,G #[y z t0.ix,y z t0.tm,F t0.da] 43 (0,0)) (by rw [hK'];simp)
 have K22:Hid (V Q 22 #[y I 2,R #[y z 0,y I 0,y z 0],R #[y z t0.ix,y z t0.tm,F t0.da],S A6 es.length c6] w6 fun x w'=>∃ g pm pn d,x=X (.tuple #[ptr pm,ptr pn])∧One w g pm K' ⟨d,⟨2,8,40,1,1,0,0⟩,hd0,t0,es,2,2⟩ w'∧Ig 100 ⟨d,⟨2,8,40,1,1,0,0⟩,hd0,t0,es,2,2⟩) :=
  zmf (H:=hd0) HB7.out hk6 (.inr rfl) zjn ((J.Sl.zdm _ _).2 ⟨.inr rfl,by decide,by decide⟩) TOK.out HTS.out.1 HTS.out.2 (by have:=TIX.out;omega) RD.out HGOOD.out HCT.out (by have:=HLEN.out.2;omega) HSZ.out
 have e0:w6.cell? ⟨w.heap.size,0,E⟩=C (y z t0.ix):=zcr w6 _ 0 _ 43 (0,0) H47;have e1:w6.cell? ⟨w.heap.size,1,E⟩=C (y z t0.tm):=zcr w6 _ 1 _ 43 (0,0) H47;have e2:w6.cell? ⟨w.heap.size,2,E⟩=C (F t0.da):=zcr w6 _ 2 _ 43 (0,0) H47;clear hL6 k1 k2 H47 hK' hk6 b6 HB6 H46 HM6 K21 c0;obtain ⟨N,hN⟩:∃ N,N=es.length:=⟨_,rfl⟩;rw [←hN] at K22 RD hnc ⊢;have HNC:=zh hnc;clear hnc;have hN1:1≤N∧N≤6:=by rw [hN];exact HLEN.out
 have HNN:=zh hN;have q0:((N:Int)==0)=U:=by simp;omega
 have q1:¬ (N:Int)=0:=by omega
 clear hN;unfold ptr at *
 go_upto_region 11 with (go_at_call 22;(with_reducible refine K22.out.mono ?_);rintro q w7 ⟨gd,pm,pn,d,rfl,O7,I7⟩)
 obtain ⟨k,hk⟩:∃ k,k=at_ % N:=⟨_,rfl⟩;have hkN:k<N:=by rw [hk];exact Nat.mod_lt _ (by omega)
 have hki:(at_:Int) % (N:Int)=(k:Int):=by rw [hk];rfl
 obtain ⟨e,he⟩:∃ e,es[k]?=C e:=⟨_,zt2 (by rw [←HNN.out];exact hkN)⟩;obtain ⟨a6,hA6,hB6,hc6⟩:=(RD.out w7 O7.bk).at_ k e he;subst hA6;obtain ⟨m0,hm0⟩:∃ m0:Nat,e.term=(m0:Int):=ztW (by have:=(HTM.out k e he).1;omega);have hm1:1≤m0∧m0≤1000:=by have:=HTM.out k e he;omega
 obtain ⟨x1,hx1⟩:∃ x1,x1=t0.ix+k+1:=⟨_,rfl⟩;have hxi:e.index=(x1:Int):=by rw [HCT.out k e he,hx1]
 have f0:w7.cell? (a6.add (k*11))=C (y z (m0:Int)):=by rw [←hm0];exact hc6 0 (by omega)
 have f1:w7.cell? ⟨(a6.add (k*11)).block,(a6.add (k*11)).off+1,E⟩=C (y z (x1:Int)):=by rw [←hxi];exact hc6 1 (by omega)
 have hbb:T w7.heap.size w7 (w7.alloc (G #[y z 0,y z 0,Value.string { data:=#[] }] 43)):=(qc _ w7).alloc (ztI _) _;have f2:(w7.alloc (G #[y z 0,y z 0,Value.string { data:=#[] }] 43)).cell? (a6.add (k*11))=C (y z (m0:Int)):=(hbb.cell (by rw [za8];exact hB6)).trans f0;have f3:(w7.alloc (G #[y z 0,y z 0,Value.string { data:=#[] }] 43)).cell? ⟨(a6.add (k*11)).block,(a6.add (k*11)).off+1,E⟩=C (y z (x1:Int)):=(hbb.cell (by show (a6.add (k*11)).block<_;rw [za8];exact hB6)).trans f1;have HE:=zh he;have HM0:=zh hm0;have HX1:=zh hx1;have HK:=zh hk;have O7:=zh O7;have I7:=zh I7;clear hbb hm0 hx1 hk hxi he hc6 hB6 K22 e0 e1 e2;rw [hki]
 go_region
 go_upto_region 12 with fail
 generalize hW8:(w7.alloc (G #[y z (x1:Int),y z (m0:Int),Value.string { data:=#[110,101,119] }] 43)).drew=W8;have hb8:T w7.heap.size w7 W8:=by rw [←hW8];exact zba.drew
 have h8:W8.heap[w7.heap.size]?=C (G #[y z (x1:Int),y z (m0:Int),Value.string { data:=#[110,101,119] }] 43 (0,0)):=by rw [←hW8];exact ztJ w7 _
 have O8:=zh (O7.out.add hb8 (ztI _) h8);have g0:W8.cell? ⟨w7.heap.size,0,E⟩=C (y z (x1:Int)):=zcr W8 _ 0 _ 43 (0,0) h8;have g1:W8.cell? ⟨w7.heap.size,1,E⟩=C (y z (m0:Int)):=zcr W8 _ 1 _ 43 (0,0) h8;have g2:W8.cell? ⟨w7.heap.size,2,E⟩=C (F { data:=#[110,101,119] }):=zcr W8 _ 2 _ 43 (0,0) h8;obtain ⟨z0,z1,z2⟩:=zhs h8;have H8:=zh h8;have HB8:=zh hb8;clear hb8 h8 hW8 f0 f1 f2 f3
 have KC:Hid (∀ (m1:Nat),m1≤1001→∃ d4 es2,es2=stL t0 ⟨x1,m1,⟨#[110,101,119]⟩⟩ es∧Ig 100 ⟨d4,Ip.turn ⟨2,8,40,1,1,0,0⟩,hd0,⟨x1,m1,⟨#[110,101,119]⟩⟩,es2,3,2⟩∧∀ W K,One w gd pm K ⟨d,⟨2,8,40,1,1,0,0⟩,hd0,t0,es,2,2⟩ W→V Q 30 #[qd (C ⟨pm,0,E⟩),R #[y z x1,y z m1,F ⟨#[110,101,119]⟩]] W fun x w'=>x=X (y I 0)∧One w gd pm K ⟨d4,Ip.turn ⟨2,8,40,1,1,0,0⟩,hd0,⟨x1,m1,⟨#[110,101,119]⟩⟩,es2,3,2⟩ w'):=fun m1 hm=>by
  have tx:=TIX.out;have hx:=HX1.out;have ok:Sn.Ok ⟨x1,m1,⟨#[110,101,119]⟩⟩:=⟨by show x1<_;omega,by show m1<_;omega,by show (3:Nat)≤_;decide⟩;have hs:=zmm (s:=⟨x1,m1,⟨#[110,101,119]⟩⟩) (by show (3:Nat)≤_;decide) ok.i ok.t;obtain ⟨d4,g1,g2,_⟩:=I7.out.compact ok hs.1 hs.2 (by show t0.ix≤x1;omega) (by show x1≤_;omega) (by show (2:Nat)<_;decide);exact ⟨d4,_,rfl,g1,fun W K h=>h.m (g2 _ _ _ _)⟩
 have hz:t0.ix<x1:=by rw [HX1.out];omega
 have KB:Hid (∀ (M:Mi),Ig 100 M→M.s.ix=x1→∀ W K,One w gd pm K M W→V Q 30 #[qd (C ⟨pm,0,E⟩),R #[y z t0.ix,y z t0.tm,F ⟨#[]⟩]] W fun x w'=>x=X (y I 1)∧One w gd pm K M w'):=fun M hI hx W K h =>
  h.m (hI.back (s2:=⟨t0.ix,t0.tm,⟨#[]⟩⟩) ⟨TOK.out.i,TOK.out.t,by show (0:Nat)≤_;decide⟩ (by rw [hx];exact hz) _ _ _ _)
 have HZ:=zh hz;clear hz
 cases other with
 | false =>
   obtain ⟨d4,es2,hes2,i4,k4⟩:=KC.out m0 (by omega)
   have hs2:es2=es.drop (k+1):=by
    rw [hes2];exact zq7 HCT.out HE.out HX1.out (by show (m0:Int)=_;rw [HM0.out])
   have hln:es2.length≤64:=by rw [hs2,zuh];have:=HLEN.out.2;omega
   have HEQ:Hid (ze0 es2.length (N-(k+1)) es2 (es.drop (k+1))=true):=by
    show _=_
    have:N-(k+1)=(es.drop (k+1)).length:=by rw [zuh,HNN.out]
    rw [this,hs2];exact zgk _
   clear hes2 hs2;have K30:=zh k4;have I4:=zh i4;clear k4 i4
   go_upto_region 17 with (go_at_call 30;(with_reducible first|refine (K30.out _ _ O8.out).mono ?_|refine (K30.out _ _ O8.out.drew).mono ?_);rintro q w9 ⟨rfl,O9⟩;have O9:=zh O9)
   have h9:=HC4.out w9 fun q hq=>O9.out.bk q (by simp [hq]);have e0:w9.cell? ⟨w.heap.size,0,E⟩=C (y z t0.ix):=zcr w9 _ 0 _ 43 (0,0) h9;have e1:w9.cell? ⟨w.heap.size,1,E⟩=C (y z t0.tm):=zcr w9 _ 1 _ 43 (0,0) h9;have K31:=zh (KB.out _ I4.out rfl);clear h9
   go_upto_region 18 with (go_at_call 30;(with_reducible first|refine (K31.out _ _ O9.out).mono ?_|refine (K31.out _ _ O9.out.drew).mono ?_);rintro q w10 ⟨rfl,O10⟩;have O10:=zh O10)
   have KS:=zh (fun W K (h:One w gd pm K ⟨d4,Ip.turn ⟨2,8,40,1,1,0,0⟩,hd0,⟨x1,m0,⟨#[110,101,119]⟩⟩,es2,3,2⟩ W)=>h.state hln);unfold ptr at KS
   go_upto_region 19 with (go_at_call 25;(with_reducible first|refine (KS.out _ _ O10.out).mono ?_|refine (KS.out _ _ O10.out.drew).mono ?_);rintro q w11 ⟨A5,c5,K5,rfl,O11,L11⟩;have O11:=zh O11;have L11:=zh L11)
   clear K30 K31 KS e0 e1;obtain ⟨row,hrow⟩:∃ row:Array Y,row=#[y z hd0.tm,y I hd0.vo,y z hd0.cm,y z x1,y z m0,F ⟨#[110,101,119]⟩,S A5 es2.length c5]:=⟨_,rfl⟩;obtain ⟨W12,hW12⟩:∃ W12,W12=w11.alloc (G row 61):=⟨_,rfl⟩;have h12:W12.heap[w11.heap.size]?=C (G row 61 (0,0)):=by rw [hW12];exact ztJ w11 _
   have O12:=zh (O11.out.add (W':=W12) (by rw [hW12];exact zba) (ztI _) h12);rw [hrow] at hW12;refine zaf (w:=W12) (by rw [hW12]) ?_
   have r6:W12.cell? ⟨w11.heap.size,6,E⟩=C (S A5 es2.length c5):=by
    have:=zcr W12 _ 6 _ 61 (0,0) h12
    rw [hrow] at this;exact this
   have HROW:=zh hrow;obtain ⟨AW,hAW⟩:∃ AW,AW=(if c6=k+1 then C a6 else C (a6.add ((k+1)*11))):=⟨_,rfl⟩
   have HFW:Hid (∀ W,Bk K' W→zcx W.heap.size AW (N-(k+1)) (es.drop (k+1)) W):=fun W hb=>by
    rw [hAW];exact zl8 (RD.out W hb) (by omega) HNC.out
   rw [←hAW];clear hAW
   have K26:Hid (∀ W,T W12.heap.size W12 W→V Q 26 #[S A5 es2.length c5,S AW (N-(k+1)) (c6-(k+1))] W fun r w'=>r=X (.bool true)∧T W.heap.size W w'):=fun W hW=>by
    have O:=O12.out.below hW;have hE:=L11.out.rd W fun q hq=>O.bk q (by simp [hq]);have hF:=HFW.out W fun q hq=>O.bk q (by simp [hq]);refine (zig _ _ _ _ _ _ _ _ W hE hF (by omega) (by omega)).mono ?_;rintro r w' ⟨rfl,hb⟩;exact ⟨by rw [HEQ.out],hb⟩
   clear hW12 h12 hrow
   go_upto_region 20 with (go_at_call 26;(with_reducible first|refine (K26.out _ (qc _ _)).mono ?_|refine (K26.out _ (qc _ _).drew).mono ?_);rintro q w13 ⟨rfl,b13⟩;have b13:=zh b13)
   have O13:=zh (O12.out.below b13.out);have h8:=O13.out.bk (w7.heap.size,G #[y z (x1:Int),y z (m0:Int),F ⟨#[110,101,119]⟩] 43 (0,0)) (by simp);have h12:=O13.out.bk (w11.heap.size,G row 61 (0,0)) (by simp);rw [HROW.out] at h12;have u0:w13.cell? ⟨w11.heap.size,3,E⟩=C (y z (x1:Int)):=zcr w13 _ 3 _ 61 (0,0) h12;have u1:w13.cell? ⟨w11.heap.size,4,E⟩=C (y z (m0:Int)):=zcr w13 _ 4 _ 61 (0,0) h12;have u2:w13.cell? ⟨w11.heap.size,5,E⟩=C (F ⟨#[110,101,119]⟩):=zcr w13 _ 5 _ 61 (0,0) h12;have v0:w13.cell? ⟨w7.heap.size,0,E⟩=C (y z (x1:Int)):=zcr w13 _ 0 _ 43 (0,0) h8;have v1:w13.cell? ⟨w7.heap.size,1,E⟩=C (y z (m0:Int)):=zcr w13 _ 1 _ 43 (0,0) h8;have v2:w13.cell? ⟨w7.heap.size,2,E⟩=C (F ⟨#[110,101,119]⟩):=zcr w13 _ 2 _ 43 (0,0) h8;have hq:=zqc x1 m0 ⟨#[110,101,119]⟩;have qa:=zqa;have qb:=zqb
   have K27:Hid (∀ K W,One w gd pm K ⟨d4,Ip.turn ⟨2,8,40,1,1,0,0⟩,hd0,⟨x1,m0,⟨#[110,101,119]⟩⟩,es2,3,2⟩ W→V Q 27 #[qd (C ⟨pm,0,E⟩)] W fun x w'=>x=X (R #[y I 2,y I 8,y I 40,y I 0,y I 0,y I 0,y I 0])∧One w gd pm K ⟨d4,Ip.turn ⟨2,8,40,1,1,0,0⟩,hd0,⟨x1,m0,⟨#[110,101,119]⟩⟩,es2,3,2⟩ w'):=fun K W h=>by
    obtain ⟨lg,hl⟩:=h.hd;refine (zfs hl).mono ?_;rintro x w' ⟨rfl,hb⟩;exact ⟨rfl,h.below hb⟩
   clear h8 h12 b13 K26
   go_wp2_with (first
    | (go_at_call 27;(with_reducible first|refine (K27.out _ _ O14.out).mono ?_|refine (K27.out _ _ O14.out.drew).mono ?_);rintro q w15 ⟨rfl,O15⟩;have O15:=zh O15)
    | (go_at_call 27;(with_reducible first|refine (K27.out _ _ O13.out).mono ?_|refine (K27.out _ _ O13.out.drew).mono ?_);rintro q w14 ⟨rfl,O14⟩;have O14:=zh O14))
   all_goals (go_ret;exact ⟨rfl,O15.out.be⟩)
 | true =>
   obtain ⟨m2,hm2⟩:∃ m2,m2=m0+1:=⟨_,rfl⟩;have hm3:(m0:Int)+1=(m2:Int):=by omega
   obtain ⟨d4,es2,hes2,i4,k4⟩:=KC.out m2 (by omega)
   have hs2:es2=[]:=by
    rw [hes2];exact zoQ HCT.out HE.out HX1.out (by show (m2:Int)≠_;rw [HM0.out];omega)
   have hln:es2.length≤64:=by rw [hs2];simp
   have HEQ:Hid (ze0 es2.length 0 es2 []=true):=by
    show _=_;rw [hs2];exact zgk []
   have k5:∀ W K,One w gd pm K ⟨d,⟨2,8,40,1,1,0,0⟩,hd0,t0,es,2,2⟩ W→V Q 30 #[qd (C ⟨pm,0,E⟩),R #[y z x1,y z ((m0:Int)+1),F ⟨#[110,101,119]⟩]] W fun x w'=>x=X (y I 0)∧One w gd pm K ⟨d4,Ip.turn ⟨2,8,40,1,1,0,0⟩,hd0,⟨x1,m2,⟨#[110,101,119]⟩⟩,es2,3,2⟩ w':=by
    rw [hm3];exact k4
   have k4:=k5;clear k5;clear hes2 hs2;have K30:=zh k4;have I4:=zh i4;clear k4 i4;obtain ⟨y1,y2,y3⟩:=zbt w7.heap.size 43 [(1,y z ((m0:Int)+1))] W8 _ H8.out;simp only [setc,zA,zB,zC] at y1;have y4:=y3 w7.heap.size w7 HB8.out (ztI _);have O8t:=O7.out.add y4 (ztI _) y1;rw [show (m0:Int)+1=(m2:Int) from hm3] at O8t;rw [show setl w7.heap.size [(1,y z (m2:Int))] W8=W8.setCell ⟨w7.heap.size,1,E⟩ (y z ((m0:Int)+1)) by rw [hm3];simp only [setl]] at O8t;have O8t:=zh O8t;have HM2:=zh hm2;have HM3:=zh hm3;clear y1 y2 y3 y4 hm2 hm3
   go_upto_region 17 with (go_at_call 30;(with_reducible first|refine (K30.out _ _ O8t.out).mono ?_|refine (K30.out _ _ O8t.out.drew).mono ?_);rintro q w9 ⟨rfl,O9⟩;have O9:=zh O9)
   have h9:=HC4.out w9 fun q hq=>O9.out.bk q (by simp [hq]);have e0:w9.cell? ⟨w.heap.size,0,E⟩=C (y z t0.ix):=zcr w9 _ 0 _ 43 (0,0) h9;have e1:w9.cell? ⟨w.heap.size,1,E⟩=C (y z t0.tm):=zcr w9 _ 1 _ 43 (0,0) h9;have K31:=zh (KB.out _ I4.out rfl);clear h9
   go_upto_region 18 with (go_at_call 30;(with_reducible first|refine (K31.out _ _ O9.out).mono ?_|refine (K31.out _ _ O9.out.drew).mono ?_);rintro q w10 ⟨rfl,O10⟩;have O10:=zh O10)
   have KS:=zh (fun W K (h:One w gd pm K ⟨d4,Ip.turn ⟨2,8,40,1,1,0,0⟩,hd0,⟨x1,m2,⟨#[110,101,119]⟩⟩,es2,3,2⟩ W)=>h.state hln);unfold ptr at KS
   go_upto_region 19 with (go_at_call 25;(with_reducible first|refine (KS.out _ _ O10.out).mono ?_|refine (KS.out _ _ O10.out.drew).mono ?_);rintro q w11 ⟨A5,c5,K5,rfl,O11,L11⟩;have O11:=zh O11;have L11:=zh L11)
   clear K30 K31 KS e0 e1;obtain ⟨row,hrow⟩:∃ row:Array Y,row=#[y z hd0.tm,y I hd0.vo,y z hd0.cm,y z x1,y z m2,F ⟨#[110,101,119]⟩,S A5 es2.length c5]:=⟨_,rfl⟩;obtain ⟨W12,hW12⟩:∃ W12,W12=w11.alloc (G row 61):=⟨_,rfl⟩;have h12:W12.heap[w11.heap.size]?=C (G row 61 (0,0)):=by rw [hW12];exact ztJ w11 _
   have O12:=zh (O11.out.add (W':=W12) (by rw [hW12];exact zba) (ztI _) h12);rw [hrow] at hW12;refine zaf (w:=W12) (by rw [hW12]) ?_
   have r6:W12.cell? ⟨w11.heap.size,6,E⟩=C (S A5 es2.length c5):=by
    have:=zcr W12 _ 6 _ 61 (0,0) h12
    rw [hrow] at this;exact this
   have HROW:=zh hrow;have HFW:Hid (∀ W,Bk K' W→zcx W.heap.size E 0 [] W):=fun W hb=>(Le.nil 0 W).ents
   have K26:Hid (∀ W,T W12.heap.size W12 W→V Q 26 #[S A5 es2.length c5,S E 0 0] W fun r w'=>r=X (.bool true)∧T W.heap.size W w'):=fun W hW=>by
    have O:=O12.out.below hW;have hE:=L11.out.rd W fun q hq=>O.bk q (by simp [hq]);have hF:=HFW.out W fun q hq=>O.bk q (by simp [hq]);refine (zig _ _ _ _ _ _ _ _ W hE hF (by omega) (by omega)).mono ?_;rintro r w' ⟨rfl,hb⟩;exact ⟨by rw [HEQ.out],hb⟩
   clear hW12 h12 hrow
   go_upto_region 20 with (go_at_call 26;(with_reducible first|refine (K26.out _ (qc _ _)).mono ?_|refine (K26.out _ (qc _ _).drew).mono ?_);rintro q w13 ⟨rfl,b13⟩;have b13:=zh b13)
   have O13:=zh (O12.out.below b13.out);have h8:=O13.out.bk (w7.heap.size,G #[y z (x1:Int),y z (m2:Int),F ⟨#[110,101,119]⟩] 43 (0,0)) (by simp);have h12:=O13.out.bk (w11.heap.size,G row 61 (0,0)) (by simp);rw [HROW.out] at h12;have u0:w13.cell? ⟨w11.heap.size,3,E⟩=C (y z (x1:Int)):=zcr w13 _ 3 _ 61 (0,0) h12;have u1:w13.cell? ⟨w11.heap.size,4,E⟩=C (y z (m2:Int)):=zcr w13 _ 4 _ 61 (0,0) h12;have u2:w13.cell? ⟨w11.heap.size,5,E⟩=C (F ⟨#[110,101,119]⟩):=zcr w13 _ 5 _ 61 (0,0) h12;have v0:w13.cell? ⟨w7.heap.size,0,E⟩=C (y z (x1:Int)):=zcr w13 _ 0 _ 43 (0,0) h8;have v1:w13.cell? ⟨w7.heap.size,1,E⟩=C (y z (m2:Int)):=zcr w13 _ 1 _ 43 (0,0) h8;have v2:w13.cell? ⟨w7.heap.size,2,E⟩=C (F ⟨#[110,101,119]⟩):=zcr w13 _ 2 _ 43 (0,0) h8;have hq:=zqc x1 m2 ⟨#[110,101,119]⟩;have qa:=zqa;have qb:=zqb
   have K27:Hid (∀ K W,One w gd pm K ⟨d4,Ip.turn ⟨2,8,40,1,1,0,0⟩,hd0,⟨x1,m2,⟨#[110,101,119]⟩⟩,es2,3,2⟩ W→V Q 27 #[qd (C ⟨pm,0,E⟩)] W fun x w'=>x=X (R #[y I 2,y I 8,y I 40,y I 0,y I 0,y I 0,y I 0])∧One w gd pm K ⟨d4,Ip.turn ⟨2,8,40,1,1,0,0⟩,hd0,⟨x1,m2,⟨#[110,101,119]⟩⟩,es2,3,2⟩ w'):=fun K W h=>by
    obtain ⟨lg,hl⟩:=h.hd;refine (zfs hl).mono ?_;rintro x w' ⟨rfl,hb⟩;exact ⟨rfl,h.below hb⟩
   clear h8 h12 b13 K26
   go_wp2_with (first
    | (go_at_call 27;(with_reducible first|refine (K27.out _ _ O14.out).mono ?_|refine (K27.out _ _ O14.out.drew).mono ?_);rintro q w15 ⟨rfl,O15⟩;have O15:=zh O15)
    | (go_at_call 27;(with_reducible first|refine (K27.out _ _ O13.out).mono ?_|refine (K27.out _ _ O13.out.drew).mono ?_);rintro q w14 ⟨rfl,O14⟩;have O14:=zh O14))
   all_goals (go_ret;exact ⟨rfl,O15.out.be⟩)
end
section
open Go.ChangeShapes Go.WideShapes Go.ChangeAt
theorem zmt:prog.cellsOf 39=1:=by kernel_rfl
theorem zre:prog.cellsOf 76=12:=by kernel_rfl
theorem zrf:prog.cellsOf 69=11:=by kernel_rfl
theorem zsx:prog.cellsOf 3=1:=by kernel_rfl
theorem zsy:prog.cellsOf 4=1:=by kernel_rfl
theorem zqg:prog.cellsOf 9=1:=by kernel_rfl
theorem DataW.weights_mem_agg {H:Type} {t:TypeId} {fs:Array Field} {ds:List (DataW H)} (hu:P.underlying t=C (.struct fs)) (j:Nat) {t':TypeId} {d:DataW H}
 (ht:(fs.toList.map (·.type))[j]?=C t') (hd:ds[j]?=C d):∀ n∈d.weights P t',n∈(DataW.agg ds).weights P t:=by
 intro n hn;simp only [DataW.weights,hu];exact DataW.weights_mem_each ht hd n hn
theorem zkG {H:Type} {enc:TypeId×Y→H} {x:DataW H×List MemPlace} {c0 c1 c2 c3 c4 c5 c6 c7 c8 c9 c10:Y}
 (h:DataW.trod enc Q w base sp held fuel 69 [c0,c1,c2,c3,c4,c5,c6,c7,c8,c9,c10]=C x) (hz:∀ n∈x.1.weights Q 69,n≤reachBytes) :
 ∃ e:En,[c0,c1,c2,c3,c4,c5,c6,c7,c8,c9,c10]=(ec e).toList∧e.Ok:=by
 obtain ⟨xs,n,_,rfl,hl,hlen,hf⟩:=DataW.trod_struct underlying69 h
 match xs,hlen with
 | [y0,y1,y2,y3,y4,y5,y6,y7,y8,y9,y10],_ =>
   have t0:=hf 0 _ rfl;have t1:=hf 1 _ rfl;have t2:=hf 2 _ rfl;have t3:=hf 3 _ rfl;have t4:=hf 4 _ rfl;have t5:=hf 5 _ rfl;have t6:=hf 6 _ rfl;have t7:=hf 7 _ rfl;have t8:=hf 8 _ rfl;have t9:=hf 9 _ rfl;have t10:=hf 10 _ rfl;simp [zmt,zsx,zqg] at t0 t1 t2 t3 t4 t5 t6 t7 t8 t9 t10;obtain ⟨u0,h0,_,k0⟩:=DataW.trod_int underlying39 t0;obtain ⟨u1,h1,_,k1⟩:=DataW.trod_int underlying39 t1;obtain ⟨u2,h2,_,k2⟩:=DataW.trod_int underlying3 t2;obtain ⟨u3,h3,_,k3⟩:=DataW.trod_int underlying39 t3;obtain ⟨u4,h4,_,k4⟩:=DataW.trod_int underlying39 t4;obtain ⟨u5,h5,_,k5⟩:=DataW.trod_int underlying39 t5;obtain ⟨u6,h6,_,k6⟩:=DataW.trod_int underlying39 t6;obtain ⟨u7,h7,_,k7⟩:=DataW.trod_int underlying3 t7;obtain ⟨u8,h8,_,k8⟩:=DataW.trod_int underlying3 t8;obtain ⟨u9,h9,d9,_⟩:=DataW.trod_string underlying9 t9;obtain ⟨u10,h10,d10,_⟩:=DataW.trod_string underlying9 t10;have b0:=bounds_u64 k0;have b1:=bounds_u64 k1;have b2:=bounds_i64 k2;have b3:=bounds_u64 k3;have b4:=bounds_u64 k4;have b5:=bounds_u64 k5;have b6:=bounds_u64 k6;have b7:=bounds_i64 k7;have b8:=bounds_i64 k8;simp at h0 h1 h2 h3 h4 h5 h6 h7 h8 h9 h10;subst h0 h1 h2 h3 h4 h5 h6 h7 h8 h9 h10
   have e9:u9.size≤140737488351232:=by
    have hq:=hz u9.data.toList.length (DataW.weights_mem_agg underlying69 9 rfl (by rw [d9];rfl) _ (by simp [DataW.weights]));simp only [reachBytes,zug] at hq;exact hq
   have e10:u10.size≤140737488351232:=by
    have hq:=hz u10.data.toList.length (DataW.weights_mem_agg underlying69 10 rfl (by rw [d10];rfl) _ (by simp [DataW.weights]));simp only [reachBytes,zug] at hq;exact hq
   refine ⟨⟨u0,u1,u2,u3,u4,u5,u6,u7,u8,u9,u10⟩,rfl,?_⟩
   constructor<;>first|exact e9|exact e10|(dsimp only;omega)
end
section
open Go.ChangeShapes Go.WideShapes Go.ChangeAt
theorem zkF (h:w.cell? a=C v):a.block<w.heap.size:=by
 rcases zum a.block w.heap.size with h1|h1
 ·exact h1
 ·simp [World.cell?,Array.getElem?_eq_none h1] at h
theorem zcV {H:Type} {P:Program} {e:TypeId} {d:DataW H}:∀ {ds:List (DataW H)},d∈ds→∀ n∈d.weights P e,n∈DataW.weightsAll P e ds
 | x :: ds,h,n,hn=>by
   rw [DataW.weightsAll,zt1];rcases ztT.1 h with rfl|h
   ·exact .inl hn
   ·exact .inr (zcV h n hn)
theorem zej {H:Type} {t e:TypeId} {elems spare:List (DataW H)} (hu:P.underlying t=C (.slice e)) {d:DataW H} (h:d∈elems):∀ n∈d.weights P e,n∈(DataW.slice elems spare).weights P t:=by
 intro n hn;simp only [DataW.weights,hu];exact ztK _ (zui _ (zcV h n hn))
theorem open_mades {H:Type} {enc:TypeId×Y→H} {x:DataW H×List MemPlace}
 (h:DataW.trod enc Q w base (fun _=>true) held fuel 38 [.slice A len cap]=C x) (hz:∀ n∈x.1.weights Q 38,n≤reachBytes) :
 ∃ L:List (En×Bool),zdr w.heap.size A len L w∧(∀ p∈L,p.1.Ok)∧(len:Int)≤9223372036854775807:=by
 rcases Deep.open_slice underlying38 h with ⟨hcs,_⟩|⟨a,len',cap',m,n,D,Pl,hcs,_,hl,hm,hmm,hxx,hx⟩
 ·simp at hcs;obtain ⟨rfl,rfl,rfl⟩:=hcs;exact ⟨[],⟨rfl,fun i e he=>(by cases i<;>cases he)⟩,fun e he=>(by cases he),by omega⟩
 ·simp at hcs;obtain ⟨rfl,rfl,rfl⟩:=hcs;simp only [if_true] at hmm
  have each:∀ i,i<len→∃ p:En×Bool,(∀ j,j<12→w.cell? ((a.add (i*12)).add j)=(mdc p.1 p.2)[j]?)∧p.1.Ok:=by
   intro i hi;obtain ⟨cs',g1,g2⟩:=hx i (by omega);rw [zre] at g1;obtain ⟨_,hlen,hcell⟩:=World.cells?_some g1
   match cs',hlen with
   | [c0,c1,c2,c3,c4,c5,c6,c7,c8,c9,c10,c11],_ =>
     obtain ⟨y0,y1,m,hy,_,hy0,hy1⟩:=trod_struct2 underlying76 g2;simp [zrf,zsy] at hy0 hy1;simp only [Prod.mk.injEq] at hy;obtain ⟨hyD,_⟩:=hy
     obtain ⟨e,he,ok⟩:=zkG hy0 fun n hn=>hz n (by
      rw [hxx];refine zej underlying38 (d:=D i) (List.mem_map.2 ⟨i,List.mem_range.2 hi,rfl⟩) n ?_;rw [hyD];exact DataW.weights_mem_agg underlying76 0 rfl rfl n hn)
     obtain ⟨b,hb,_⟩:=DataW.trod_bool underlying4 hy1;simp at he hb;obtain ⟨rfl,rfl,rfl,rfl,rfl,rfl,rfl,rfl,rfl,rfl,rfl⟩:=he;subst hb;refine ⟨(e,b),fun j hj=>?_,ok⟩;rw [hcell j (by omega),←zuv]
  haveI:Inhabited En:=⟨ezz⟩
  obtain ⟨q,hq⟩:=Deep.choose_lt each;refine ⟨(List.range len).map q,⟨by simp,fun i e he=>?_⟩,fun e he=>?_,by simp only [maxLen] at hm;omega⟩
  ·have hi:i<len:=by have:=(List.getElem?_eq_some_iff.1 he).1;simpa using this
   have hqe:q i=e:=by
    rw [zuM,List.getElem?_range hi] at he;exact Option.some.inj he
   have hc:=(hq i hi).1;rw [hqe] at hc;refine ⟨a,rfl,?_,hc⟩;have h0:w.cell? ((a.add (i*12)).add 0)=C (.int .u64 e.1.term):=hc 0 (by omega)
   have:=zkF h0
   rwa [za8,za8] at this
  ·obtain ⟨i,hi,rfl⟩:=List.mem_map.1 he;exact (hq i (List.mem_range.1 hi)).2
end
section
open Go.ChangeShapes Go.WideShapes Go.ChangeAt
open Ar (Sn)
theorem zrc:prog.cellsOf 43=3:=by kernel_rfl
theorem zrd:prog.bytesOf 76=112:=by kernel_rfl
theorem size_mades {H:Type} {enc:TypeId×Y→H} {x:DataW H×List MemPlace}
 (h:DataW.trod enc Q w base (fun _=>true) held fuel 38 [.slice A len cap]=C x) (hz:∀ n∈x.1.weights Q 38,n≤reachBytes) :
 (A=E→len=0∧cap=0)∧(len+1)*112≤140737488355328:=by
 rcases Deep.open_slice underlying38 h with ⟨hcs,_⟩|⟨a,len',cap',m,n,D,Pl,hcs,_,hl,hm,hmm,hxx,hx⟩
 ·simp at hcs;obtain ⟨rfl,rfl,rfl⟩:=hcs;exact ⟨fun _=>⟨rfl,rfl⟩,by omega⟩
 ·simp at hcs;obtain ⟨rfl,rfl,rfl⟩:=hcs;refine ⟨fun h=>(by cases h),?_⟩;have hq:=hz ((len+(m-len))*prog.bytesOf 76) (by rw [hxx];simp [DataW.weights,underlying38]);rw [zrd] at hq;simp only [reachBytes] at hq;omega
theorem open_sn {H:Type} {enc:TypeId×Y→H} {base0:Nat} {r:Reach} {d:DataW H} {p:List MemPlace}
 (hv:Value.okWide Q w r base0 43 v) (h:DataW.Trod enc Q w base sp held 43 v d p) (hz:∀ n∈d.weights Q 43,n≤reachBytes):∃ s:Sn,v=s.v∧s.Ok:=by
 obtain ⟨cs,rfl,hsz⟩:=okWide_struct underlying43 hv;rw [zrc] at hsz;obtain ⟨fuel,hf⟩:=h;obtain ⟨xs,n,hxx,hxe,hl,hlen,hf⟩:=DataW.trod_struct underlying43 hf;obtain ⟨l⟩:=cs
 match l,hsz,xs,hlen with
 | [c0,c1,c2],_,[y0,y1,y2],_ =>
   have t0:=hf 0 _ rfl;have t1:=hf 1 _ rfl;have t2:=hf 2 _ rfl;simp [Value.cells,zqg,zmt] at t0 t1 t2;obtain ⟨u0,h0,_,k0⟩:=DataW.trod_int underlying39 t0;obtain ⟨u1,h1,_,k1⟩:=DataW.trod_int underlying39 t1;obtain ⟨u2,h2,d2,_⟩:=DataW.trod_string underlying9 t2;have b0:=bounds_u64 k0;have b1:=bounds_u64 k1;simp at h0 h1 h2;subst h0 h1 h2;obtain ⟨m0,rfl⟩:=ztW b0.1;obtain ⟨m1,rfl⟩:=ztW b1.1;simp only [Prod.mk.injEq] at hxe;obtain ⟨rfl,_⟩:=hxe
   have e2:u2.size≤140737488351232:=by
    have hq:=hz u2.data.toList.length (DataW.weights_mem_agg underlying43 2 rfl (by rw [d2];rfl) _ (by simp [DataW.weights]));simp only [reachBytes,zug] at hq;exact hq
   exact ⟨⟨m0,m1,u2⟩,rfl,by dsimp only;omega,by dsimp only;omega,by dsimp only;omega⟩
end
end Go.Proofs.YtidndekacnmihaaGreat
