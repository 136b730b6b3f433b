/- Parts of a proof. -/
import Derived.Test.YtidndekacnmihaaGreatC04
import Derived.Test.YtidndekacnmihaaGreatC13
set_option linter.all false
set_option maxHeartbeats 8000000
set_option maxRecDepth 100000
namespace Go.Proofs.YtidndekacnmihaaGreat
open Bool renaming false→I,true→Z
open Ending renaming returned→qc
open Go renaming World→R,Calls→qe,Value→qi
open Go.RowKit renaming Below→O
open Go.RowKit.Below renaming refl→qh
open IntKind renaming u64→H,i64→S
open Lib renaming byteCells→qk
open List renaming replicate→qg
open Obj renaming cells→F
open Option renaming some→C,none→D
open Tryz renaming prog→U
open Value renaming int→f,string→A,tuple→qd,bool→qf,slice→qj,pointer→ql
open Tryz hiding t4
variable {g:Nat} {b s:ByteArray} {W w:R} {ops:Array Oper} {op:Oper} {a:Int} {Q:Exit→Act→R→Prop}
namespace J
open Go.RowKit Vi
namespace Sp
def zBq (n:Nat):ByteArray:=⟨(qg n 0).toArray⟩
theorem zBq_size (n:Nat):(zBq n).size=n:=by show (qg n (0:UInt8)).toArray.size=n;simp
def rest (g:Nat) (b:ByteArray):ByteArray:=fxB g 8++fxB b.size 1++b++zBq (51-b.size)
def cell (g:Nat) (b:ByteArray):ByteArray:=Crc.zaE (rest g b)
def cO (g:Nat) (b:ByteArray):Bool:=!(decide (g=0)||decide (51<b.size))
def cS (g:Nat) (b:ByteArray):ByteArray:=if cO g b then cell g b else ⟨#[]⟩
theorem zbF (g:Nat) (b:ByteArray):cO g b=Z↔g≠0∧b.size≤51:=by
 unfold cO;simp only [Bool.not_eq_true',Bool.or_eq_false_iff,decide_eq_false_iff_not];omega
theorem zfj (h:cO g b=Z):cS g b=cell g b:=by unfold cS;rw [if_pos h]
theorem zoC (h:cO g b=I):cS g b=⟨#[]⟩:=by unfold cS;rw [if_neg (by rw [h];decide)]
theorem zfk (g:Nat) (b:ByteArray) (hb:b.size≤51):(rest g b).size=60:=by
 have h1:(fxB g (8:Int)).size=8:=zac g 8 (by omega);have h2:(fxB b.size (1:Int)).size=1:=zac b.size 1 (by omega);unfold rest;rw [ztS,ztS,ztS,zBq_size];omega
theorem zfl (g:Nat) (b:ByteArray) (hb:b.size≤51):(cell g b).size=64:=by
 unfold cell;rw [Crc.zaW,zfk g b hb]
theorem zqV (g:Nat) (b:ByteArray):(cS g b).size≤64:=by
 unfold cS
 split
 ·rename_i h;rw [zfl g b ((zbF g b).1 h).2];omega
 ·exact ztO _
def t4 (s:ByteArray):ByteArray:=zdh s 4
def gG (s:ByteArray):Nat:=za1 (t4 s) 8
def gN (s:ByteArray):Nat:=za1 (zan (t4 s) 8) 1
def gR (s:ByteArray):ByteArray:=zan (zan (t4 s) 8) 1
def gB (s:ByteArray):ByteArray:=zcG (gR s) (gN s)
def gO (s:ByteArray):Bool:=cO (gG s) (gB s)&&((cS (gG s) (gB s)).toList==s.toList)
def zeP (s:ByteArray):Nat:=if gO s then gG s else 0
def zfU (s:ByteArray):ByteArray:=if gO s then gB s else ⟨#[]⟩
theorem ztr (a b:ByteArray):(a.toList==b.toList)=Z↔a=b:=by
 constructor
 ·intro h;have h1:=eq_of_beq h;rw [ByteArray.toList_eq,ByteArray.toList_eq] at h1;exact ByteArray.ext (Array.toList_inj.1 h1)
 ·rintro rfl;simp
theorem zsi (s:ByteArray):gN s<256:=zbZ _
theorem zl0 (s:ByteArray):gG s<18446744073709551616:=by
 unfold gG za1
 split
 ·exact zbO (nums (t4 s)) (zaG _) 8
 ·omega
theorem ztd (n:Nat):(Crc.head n).size=4:=Crc.zdG n
theorem zc8 (g:Nat) (b:ByteArray) (hg:g<18446744073709551616) (hb:b.size≤51):gG (cell g b)=g∧gN (cell g b)=b.size∧gB (cell g b)=b∧gR (cell g b)=b++zBq (51-b.size):=by
 have e4:t4 (cell g b)=rest g b:=by
  unfold t4 cell Crc.zaE
  have:=(ze6 (Crc.head (Crc.zbf 0 (rest g b))) (rest g b)).2.1
  rwa [ztd] at this
 have er:rest g b=fxB g 8++(fxB b.size 1++(b++zBq (51-b.size))):=by
  unfold rest;rw [ByteArray.append_assoc,ByteArray.append_assoc]
 have fa:∀ t:ByteArray,za1 (fxB g (8:Int)++t) (8:Int)=g % 256 ^ 8∧zan (fxB g (8:Int)++t) (8:Int)=t:=fun t=>⟨(zcb g 8 (by omega) t).1,(zcb g 8 (by omega) t).2.1⟩;have fb:∀ t:ByteArray,za1 (fxB b.size (1:Int)++t) (1:Int)=b.size % 256 ^ 1∧zan (fxB b.size (1:Int)++t) (1:Int)=t:=fun t=>⟨(zcb b.size 1 (by omega) t).1,(zcb b.size 1 (by omega) t).2.1⟩;obtain ⟨a1,a2⟩:=fa (fxB b.size 1++(b++zBq (51-b.size)));obtain ⟨b1,b2⟩:=fb (b++zBq (51-b.size));have c1:=(ze6 b (zBq (51-b.size))).1;unfold gB gR gN gG;rw [e4,er,a2,b2];have hn:za1 (fxB b.size 1++(b++zBq (51-b.size))) 1=b.size:=by rw [b1];omega
 rw [hn];exact ⟨by rw [a1];exact zuj hg,rfl,c1,rfl⟩
theorem zdP (s:ByteArray):gO s=Z↔cO (gG s) (gB s)=Z∧s=cell (gG s) (gB s):=by
 unfold gO;rw [ztZ,ztr];constructor
 ·rintro ⟨h1,h2⟩;rw [zfj h1] at h2;exact ⟨h1,h2.symm⟩
 ·rintro ⟨h1,h2⟩;rw [zfj h1];exact ⟨h1,h2.symm⟩
theorem zl1 (g:Nat) (b:ByteArray) (hg:g<18446744073709551616) (h:cO g b=Z):gO (cell g b)=Z:=by
 obtain ⟨r1,r2,r3,_⟩:=zc8 g b hg ((zbF g b).1 h).2;rw [zdP,r1,r3];exact ⟨h,rfl⟩
theorem zoD (g:Nat) (b:ByteArray) (hg:g<18446744073709551616) (h:cO g b=Z):zeP (cell g b)=g∧zfU (cell g b)=b:=by
 obtain ⟨r1,r2,r3,_⟩:=zc8 g b hg ((zbF g b).1 h).2;unfold zeP zfU;rw [if_pos (zl1 g b hg h),if_pos (zl1 g b hg h),r1,r3];exact ⟨rfl,rfl⟩
theorem zqW (h:gO s=Z):s.size=64:=by
 obtain ⟨h1,h2⟩:=(zdP s).1 h;rw [h2,zfl _ _ ((zbF _ _).1 h1).2]
theorem zsj (h:gO s=Z):zeP s≠0:=by
 unfold zeP;rw [if_pos h];exact ((zbF _ _).1 ((zdP s).1 h).1).1
theorem zhR:zeP s=0↔gO s=I:=by
 constructor
 ·intro h
  cases e:gO s
  ·rfl
  ·exact absurd h (zsj e)
 ·intro h;unfold zeP;rw [if_neg (by rw [h];decide)]
theorem zhS (h:zeP s=0):zfU s=⟨#[]⟩:=by
 unfold zfU;rw [if_neg (by rw [zhR.1 h];decide)]
theorem zl2 (s:ByteArray):zeP s<18446744073709551616:=by
 unfold zeP;split
 ·exact zl0 s
 ·omega
theorem zhT (s:ByteArray):(zfU s).size≤51:=by
 unfold zfU;split
 ·rename_i h;exact ((zbF _ _).1 ((zdP s).1 h).1).2
 ·exact ztO _
def gB2 (s:ByteArray):ByteArray:=zcG (gR s) (if 51<gN s then 51 else gN s)
def gO2 (s:ByteArray):Bool:=cO (gG s) (gB2 s)&&((cS (gG s) (gB2 s)).toList==s.toList)
theorem zlO (s:ByteArray):gO2 s=gO s∧(gO s=Z→gB2 s=gB s):=by
 by_cases h:51<gN s
 ·have n1:gO s=I:=by
   cases e:gO s
   ·rfl
   ·exfalso;obtain ⟨h1,h2⟩:=(zdP s).1 e
    have:=(zc8 (gG s) (gB s) (zl0 s) ((zbF _ _).1 h1).2).2.1
    rw [←h2] at this
    have:=((zbF _ _).1 h1).2
    omega
  refine ⟨?_,fun e=>by rw [n1] at e;cases e⟩;rw [n1]
  cases e:gO2 s
  ·rfl
  ·exfalso;unfold gO2 at e;rw [ztZ,ztr] at e;obtain ⟨h1,h2⟩:=e;rw [zfj h1] at h2
   have:=(zc8 (gG s) (gB2 s) (zl0 s) ((zbF _ _).1 h1).2).2.1
   rw [h2] at this
   have:=((zbF _ _).1 h1).2
   omega
 ·have e:gB2 s=gB s:=by unfold gB2 gB;rw [if_neg h]
  unfold gO2;rw [e];exact ⟨rfl,fun _=>rfl⟩
theorem zoE (h:s.size≠64):gO s=I:=by
 cases e:gO s
 ·rfl
 ·exact absurd (zqW e) h
end Sp
theorem zgf (a b c d:Int) (w:R):∀ i,i<4→(w.alloc (F #[f .u8 a,f .u8 b,f .u8 c,f .u8 d] 5)).cell? ⟨w.heap.size,0+i,D⟩=C (f .u8 ([a,b,c,d].getD i 0))
 | 0,_=>by simp
 | 1,_=>by simp
 | 2,_=>by simp
 | 3,_=>by simp
 | k+4,h=>by omega
theorem zov (n:Nat) (w:R) (hn:n<4294967296) :
 qe U 255 #[f .u32 n] w fun e w'=>e=qc (A (Crc.head n))∧O w.heap.size w w':=by
 have hcv:=run_convert_bytes_arg (P:=U) (w.alloc (F #[f .u8 ((n:Int) / 16777216),f .u8 ((n:Int) / 65536 % 256),f .u8 ((n:Int) / 256 % 256),f .u8 ((n:Int) % 256)] 5)) 78 5 underlying78 underlying5 w.heap.size 0 4 4
  [(n:Int) / 16777216,(n:Int) / 65536 % 256,(n:Int) / 256 % 256,(n:Int) % 256] rfl (zgf _ _ _ _ w) 9 underlying9
 rw [Crc.zlg] at hcv;go_enter func255,ntmps255;go_wp2;go_ret;exact ⟨rfl,zba⟩
theorem zow (s:ByteArray) (w:R) (hs:s.size≤9223372036854775803) :
 qe U 215 #[A s] w fun e w'=>e=qc (A (Crc.zaE s))∧O w.heap.size w w':=by
 have hm:=Crc.zc3 0 s;have hz:(Crc.head (Crc.zbf 0 s)).size+s.size≤9223372036854775807:=by rw [Crc.zdG];omega
 go_enter func215,ntmps215
 go_wp2_with fail
 refine (zlk s w (by unfold maxLen;omega)).mono ?_;rintro e w1 ⟨rfl,hb⟩
 go_wp2_with fail
 refine (zov _ w1 hm).mono ?_;rintro e w2 ⟨rfl,hb2⟩;go_wp2;go_ret;exact ⟨rfl,hb.trans (hb2.mono hb.size)⟩
theorem zlJ (s:ByteArray) (w:R) (hs:s.size≤9223372036854775803) :
 qe U 219 #[A s] w fun e w'=>e=qc (A (Crc.zaE s))∧O w.heap.size w w':=by
 have hm:=Crc.zc3 0 s
 have hcv:=fun n:Nat=>run_convert_bytes_arg (P:=U) (w.alloc (F #[f .u8 ((n:Int) / 16777216),f .u8 ((n:Int) / 65536 % 256),f .u8 ((n:Int) / 256 % 256),f .u8 ((n:Int) % 256)] 5)) 78 5 underlying78 underlying5 w.heap.size 0 4 4
  [(n:Int) / 16777216,(n:Int) / 65536 % 256,(n:Int) / 256 % 256,(n:Int) % 256] rfl (zgf _ _ _ _ w) 9 underlying9
 simp only [Crc.zlg] at hcv;have hz:∀ n:Nat,(Crc.head n).size+s.size≤9223372036854775807:=fun n=>by rw [Crc.zdG];omega
 have HP:Hid (Crc.head (Crc.zbf 0 s)++s=Crc.zaE s):=rfl;go_enter func219,ntmps219
 go_wp2_with fail
 refine (zgy s w (by unfold maxLen;omega)).mono ?_;rintro e w1 ⟨rfl,rfl⟩;have hcv1:=hcv (Crc.zbf 0 s);have hz1:=hz (Crc.zbf 0 s);clear hcv hz;generalize Crc.zbf 0 s=n at *;go_wp2;go_ret;exact ⟨by rw [HP.out];exact rfl,zba⟩
open Sp
theorem zBq_rep (n:Nat):(⟨(Lib.repeatL (⟨#[0]⟩:ByteArray).data.toList n).toArray⟩:ByteArray)=zBq n:=by
 have h:∀ n,Lib.repeatL ([0]:List UInt8) n=qg n 0:=by
  intro n;induction n with
  | zero=>rfl
  | succ n ih=>rw [List.replicate_succ];show [0]++Lib.repeatL [0] n=_;rw [ih];rfl
 show (⟨(Lib.repeatL [0] n).toArray⟩:ByteArray)=zBq n;rw [h];rfl
theorem zjA (g:Nat) (b:ByteArray) (w:R) (hg:g<18446744073709551616) (hb:b.size≤281474976710656) :
 qe U 168 #[f H g,A b] w fun e w'=>e=qc (qd #[A (cS g b),qf (cO g b)])∧O w.heap.size w w':=by
 by_cases h0:g=0
 ·subst h0;have ho:Hid (cO 0 b=I):=by show _=_;unfold cO;simp
  have hs:Hid (cS 0 b=⟨#[]⟩):=zoC ho.out;go_enter func168,ntmps168;go_wp2;go_ret2;exact ⟨by rw [ho.out,hs.out];rfl,qh _ _⟩
 ·have hz:decide (g=0)=I:=ztM h0;have hz':((g:Int)==0)=I:=by simpa using h0
  by_cases h51:51<b.size
  ·have ho:Hid (cO g b=I):=by
    show _=_
    cases e:cO g b
    ·rfl
    ·have:=(zbF g b).1 e;omega
   have hs:Hid (cS g b=⟨#[]⟩):=zoC ho.out;have h51':(51:Int)<b.size:=by omega
   go_enter func168,ntmps168;go_wp2;go_ret2;exact ⟨by rw [ho.out,hs.out];rfl,qh _ _⟩
  ·have ho:Hid (cO g b=Z):=(zbF g b).2 ⟨h0,by omega⟩;have hs:Hid (cS g b=cell g b):=zfj ho.out;have h51':¬ (51:Int)<b.size:=by omega
   have hbb:(b.size:Int)≤51:=by omega
   obtain ⟨m,hm⟩:∃ m,m=51-b.size:=⟨_,rfl⟩;have hmi:S.wrap ((51:Int)-b.size)=(m:Int):=(IntWalk.i64_in _ (by omega)).trans (by omega);have hmi':(51:Int)-b.size=(m:Int):=by omega
   have hwm:S.wrap (m:Int)=(m:Int):=IntWalk.i64_in _ (by omega);have hwb:H.wrap (b.size:Int)=(b.size:Int):=IntWalk.u64_in _ (by omega);have F8:=zh (fun W=>zbm g 8 W);have F1:=zh (fun W=>zbm b.size 1 W)
   have HR:Hid (∀ W:R,qe U 160 #[A ⟨#[0]⟩,f S m] W fun e w'=>e=qc (A (zBq m))∧O W.heap.size W w'):=fun W=>by
    have h:=strings_Repeat ⟨#[0]⟩ m W (by omega) (by show 1*m≤_;omega);rw [zBq_rep] at h;exact h
   have s8:(fxB g (8:Int)).size=8:=zac g 8 (by omega);have s1:(fxB b.size (1:Int)).size=1:=zac b.size 1 (by omega);have szm:(zBq m).size=m:=zBq_size m;have HRe:Hid (rest g b=fxB g 8++fxB b.size 1++b++zBq m):=by show _=_;rw [hm];rfl
   have HC:=zh (fun W=>zow (rest g b) W (by rw [zfk g b (by omega)];omega));rw [HRe.out] at HC;have HF:Hid (Crc.zaE (fxB g 8++fxB b.size 1++b++zBq m)=cell g b):=by show _=_;unfold cell;rw [HRe.out]
   clear hm h0;generalize fxB g (8:Int)=x8 at *;generalize fxB b.size (1:Int)=x1 at *;generalize zBq m=z at *;have q1:¬ 9223372036854775807<x8.size+x1.size:=by omega
   have q2:¬ 9223372036854775807<x8.size+x1.size+b.size:=by omega
   have q3:¬ 9223372036854775807<x8.size+x1.size+b.size+z.size:=by omega
   go_enter func168,ntmps168
   go_wp2_with fail
   refine (F8.out _).mono ?_;rintro e w1 ⟨rfl,hb1⟩
   go_wp2_with fail
   refine (F1.out _).mono ?_;rintro e w2 ⟨rfl,hb2⟩
   go_wp2_with fail
   refine (HR.out _).mono ?_;rintro e w3 ⟨rfl,hb3⟩
   go_wp2_with fail
   refine (HC.out _).mono ?_;rintro e w4 ⟨rfl,hb4⟩;go_wp2;go_ret2;have hb01:=hb1.trans (hb2.mono hb1.size);have hb03:=hb01.trans (hb3.mono hb01.size);exact ⟨by rw [HF.out,hs.out,ho.out];rfl,hb03.trans (hb4.mono hb03.size)⟩
theorem zlX (s:ByteArray) (n:Int):(zcG s n).size≤s.size:=by
 unfold zcG
 split
 ·rw [zue];omega
 ·exact ztO _
theorem zlY (s:ByteArray) (n:Int):(zdh s n).size≤s.size:=zbs s n
theorem zgT (s:ByteArray) (k:Int):(zan s k).size≤s.size:=zak s k
theorem zjx (s:ByteArray) (w:R) (hm:s.size≤281474976710656) :
 qe U 254 #[A s] w fun e w'=>e=qc (qd #[f H (zeP s),A (zfU s),qf (gO s)])∧O w.heap.size w w':=by
 have z1:(t4 s).size≤281474976710656:=ztL (zlY _ _) hm;have z2:(zan (t4 s) 8).size≤281474976710656:=ztL (zgT _ _) z1;have z3:(gR s).size≤281474976710656:=ztL (zgT _ _) z2;have z4:(gB s).size≤281474976710656:=ztL (zlX _ _) z3;have hn:=zsi s;have hG:=zl0 s;have hN:=zh (fun W=>zbE s W);have K1:=zh (fun (W:R) (h:Rd 327 w.heap.size s I W)=>zby w.heap.size s I 4 W h hm);have K2:=zh (fun (b:Bool) (W:R) (h:Rd 327 w.heap.size (t4 s) b W)=>zaH w.heap.size (t4 s) b 8 W h z1);have K3:=zh (fun (b:Bool) (W:R) (h:Rd 327 w.heap.size (zan (t4 s) 8) b W)=>zaH w.heap.size (zan (t4 s) 8) b 1 W h z2);have K4:=zh (fun (b:Bool) (W:R) (h:Rd 327 w.heap.size (gR s) b W)=>zby w.heap.size (gR s) b (gN s) W h z3);have K5:=zh (fun W=>zjA (gG s) (gB s) W hG z4);have E1:Hid (zdh s 4=t4 s):=rfl;have E2:Hid (za1 (t4 s) 8=gG s):=rfl;have E3:Hid (za1 (zan (t4 s) 8) 1=gN s):=rfl;have E4:Hid (zcG (gR s) (gN s)=gB s):=rfl;have E5:Hid (zan (zan (t4 s) 8) 1=gR s):=rfl;obtain ⟨o,ho⟩:∃ o,cO (gG s) (gB s)=o:=⟨_,rfl⟩;obtain ⟨te,hte⟩:∃ te,((cS (gG s) (gB s)).toList==s.toList)=te:=⟨_,rfl⟩;have hgo:Hid (gO s=(o&&te)):=by show _=_;unfold gO;rw [ho,hte]
 have HG:Hid (zeP s=if (o&&te)=Z then gG s else 0):=by show _=_;unfold zeP;rw [hgo.out]
 have HB:Hid (zfU s=if (o&&te)=Z then gB s else ⟨#[]⟩):=by show _=_;unfold zfU;rw [hgo.out]
 rw [ho] at K5;rw [E1.out] at K1;rw [E2.out] at K2;rw [E3.out,E5.out] at K3;rw [E4.out] at K4;obtain ⟨x,hx⟩:∃ x,x=cS (gG s) (gB s):=⟨_,rfl⟩;rw [←hx] at K5 hte;obtain ⟨G,hGe⟩:∃ G,G=gG s:=⟨_,rfl⟩;obtain ⟨N,hNe⟩:∃ N,N=gN s:=⟨_,rfl⟩;obtain ⟨B,hBe⟩:∃ B,B=gB s:=⟨_,rfl⟩;have hw:S.wrap (N:Int)=(N:Int):=IntWalk.i64_in _ (by omega);rw [←hGe] at K2 K5 HG;rw [←hNe] at K3 K4;rw [←hBe] at K4 K5 HB;obtain ⟨p,hp⟩:∃ p,p=w.heap.size:=⟨_,rfl⟩;rw [←hp] at K1 K2 K3 K4;have R0:Rd 327 p s I (w.alloc (F #[A s,qf I] 327)):=by rw [hp];exact Rd.new w _ _ _
 have B0:O p w (w.alloc (F #[A s,qf I] 327)):=by rw [hp];exact zba
 have HR0:=zh R0;have HB0:=zh B0;have HP:=zh hp;clear z1 z2 z3 z4 hn hG E1 E2 E3 E4 E5 hx hGe hNe hBe ho R0 B0 hp;unfold rdp at *;rw [←HP.out];go_enter func254,ntmps254
 go_wp2_with fail
 refine (hN.out _).mono ?_;rintro e w1 ⟨rfl,rfl⟩;rw [←HP.out];have R0:=HR0.out;have B0:=HB0.out;have L0:p≤(w.alloc (F #[A s,qf I] 327)).heap.size:=by rw [HP.out];simp
 clear HR0 HB0 hN;generalize w.alloc (F #[A s,qf I] 327)=w1 at *
 go_wp2_with fail
 refine (K1.out _ R0).mono ?_;rintro e w2 ⟨rfl,R1,g1⟩;have B1:=zaa B0 g1 L0 (ztI _);have L1:=ztL L0 g1.size;generalize (I||!zbC s 4)=b1 at *
 go_wp2_with fail
 refine (K2.out _ _ R1).mono ?_;rintro e w3 ⟨rfl,R2,g2⟩;have B2:=zaa B1 g2 L1 (ztI _);have L2:=ztL L1 g2.size;generalize (b1||!za3 (t4 s) 8)=b2 at *
 go_wp2_with fail
 refine (K3.out _ _ R2).mono ?_;rintro e w4 ⟨rfl,R3,g3⟩;have B3:=zaa B2 g3 L2 (ztI _);have L3:=ztL L2 g3.size;generalize (b2||!za3 (zan (t4 s) 8) 1)=b3 at *
 go_wp2_with fail
 refine (K4.out _ _ R3).mono ?_;rintro e w5 ⟨rfl,R4,g4⟩;have B4:=zaa B3 g4 L3 (ztI _);have L4:=ztL L3 g4.size;clear R0 R1 R2 R3 R4 g1 g2 g3 g4 B0 B1 B2 B3 L0 L1 L2 L3 K1 K2 K3 K4;have HTE:=zh hte;clear hte
 go_wp2_with fail
 refine (K5.out _).mono ?_;rintro e w6 ⟨rfl,b5⟩;have B5:=zh (B4.trans (b5.mono L4));have hte:=HTE.out;clear B4 b5 K5 HTE
 cases o with
 | false =>
   clear hte;go_wp2
   go_ret3
   exact ⟨by rw [HG.out,HB.out,hgo.out];rfl,B5.out⟩
 | true =>
   cases te with
   | false =>
     have hne:(x.toList==s.toList)=I:=hte;clear hte;go_wp2
     go_ret3
     exact ⟨by rw [HG.out,HB.out,hgo.out];rfl,B5.out⟩
   | true =>
     have hne:(x.toList==s.toList)=Z:=hte;clear hte;go_wp2
     go_ret3
     exact ⟨by rw [HG.out,HB.out,hgo.out];rfl,B5.out⟩
theorem zqX {W':R} (h:O w.heap.size w W) (h':O W.heap.size W W'):O w.heap.size w W':=h.trans (h'.mono h.size)
theorem zoF {o:Obj} (h:O w.heap.size w W):O w.heap.size w (W.alloc o):=h.alloc h.size _
theorem zqY (h:O w.heap.size w W):O w.heap.size w W.drew:=h.drew
theorem zqZ (m:Nat) (W:R) (hm:m≤51):(Instr.makeSlice 78 (f S m) (f S m)).run U W=.ok (qj (C ⟨W.heap.size,0,D⟩) m m) (W.alloc (F (qk (qg m 0)).toArray 5)):=by
 obtain ⟨i0,hi0,hz0,hz1,hz2⟩:=info_parts info5;have h1:=run_make (P:=U) W 78 5 i0 (f .u8 0) underlying78 hi0 hz0 S S m m (by omega) (by omega) (by rw [hz2];omega) (by omega)
 have e:madeCells (f .u8 0).cells ((m:Int).toNat*i0.size)=(qk (qg m 0)).toArray:=by
  rw [hz1];apply Array.ext';have h2:=toList_madeCells_one (f .u8 0) m;have h3:((m:Int).toNat*1)=m:=by omega
  rw [h3];show (madeCells #[f IntKind.u8 0] m).toList=_;rw [h2];simp [qk]
 rw [e] at h1;exact h1
theorem zq0 (m g:Nat) (W:R) (h:W.heap[g]?=C (F (qk (qg m 0)).toArray 5 (0,0))):(convert 78 9 (qj (C ⟨g,0,D⟩) m m)).run U W=.ok (A (zBq m)) W :=
 zd5 (l:=qg m 0) (by simp) (fun j u hu=>by
  rw [zcr _ _ _ _ 5 (0,0) h,zub]
  simpa using hu)
def Pz (M:Array qi) (z:ByteArray) (m:Nat) (W W':R):Prop:=∀ p,W.heap[p]?=C (F M 5 (0,0))→W'.heap[p]?=C (F M 5 (0,0))∧(convert 78 9 (qj (C ⟨p,0,D⟩) m m)).run U W'=.ok (A z) W'
theorem zhU (g:Nat) (b:ByteArray) (w:R) (hg:g<18446744073709551616) (hb:b.size≤281474976710656) :
 qe U 177 #[f H g,A b] w fun e w'=>e=qc (qd #[A (cS g b),qf (cO g b)])∧O w.heap.size w w':=by
 by_cases h0:g=0
 ·subst h0;have ho:Hid (cO 0 b=I):=by show _=_;unfold cO;simp
  have hs:Hid (cS 0 b=⟨#[]⟩):=zoC ho.out;go_enter func177,ntmps177;go_wp2;go_ret2;exact ⟨by rw [ho.out,hs.out];rfl,qh _ _⟩
 ·have hz:decide (g=0)=I:=ztM h0;have hz':((g:Int)==0)=I:=by simpa using h0
  by_cases h51:51<b.size
  ·have ho:Hid (cO g b=I):=by
    show _=_
    cases e:cO g b
    ·rfl
    ·have:=(zbF g b).1 e;omega
   have hs:Hid (cS g b=⟨#[]⟩):=zoC ho.out;have h51':(51:Int)<b.size:=by omega
   go_enter func177,ntmps177;go_wp2;go_ret2;exact ⟨by rw [ho.out,hs.out];rfl,qh _ _⟩
  ·have ho:Hid (cO g b=Z):=(zbF g b).2 ⟨h0,by omega⟩;have hs:Hid (cS g b=cell g b):=zfj ho.out;have h51':¬ (51:Int)<b.size:=by omega
   have hbb:(b.size:Int)≤51:=by omega
   obtain ⟨m,hm⟩:∃ m,m=51-b.size:=⟨_,rfl⟩;have hmi:S.wrap ((51:Int)-b.size)=(m:Int):=(IntWalk.i64_in _ (by omega)).trans (by omega);have hmi':(51:Int)-b.size=(m:Int):=by omega
   have hwm:S.wrap (m:Int)=(m:Int):=IntWalk.i64_in _ (by omega);have hwb:H.wrap (b.size:Int)=(b.size:Int):=IntWalk.u64_in _ (by omega);obtain ⟨M,hM⟩:∃ M,M=(qk (qg m 0)).toArray:=⟨_,rfl⟩;have hmk:=fun W=>zqZ m W (by omega);have hcv:∀ (W:R) (p:Nat),W.heap[p]?=C (F M 5 (0,0))→(convert 78 9 (qj (C ⟨p,0,D⟩) m m)).run U W=.ok (A (zBq m)) W:=fun W p hp=>zq0 m p W (by rw [hp,hM]);rw [←hM] at hmk;have hc1:∀ W:R,(convert 78 9 (qj (C ⟨W.heap.size,0,D⟩) m m)).run U (W.alloc (F M 5))=.ok (A (zBq m)) (W.alloc (F M 5)):=fun W=>hcv _ _ (ztJ W _);have hc2:∀ W:R,(convert 78 9 (qj (C ⟨W.heap.size,0,D⟩) m m)).run U (W.alloc (F M 5)).drew=.ok (A (zBq m)) (W.alloc (F M 5)).drew:=fun W=>hcv _ _ (ztJ W _)
   have hpz:∀ W W':R,O W.heap.size W W'→Pz M (zBq m) m W W':=fun W W' h p hp=>by
    have h1:W'.heap[p]?=C (F M 5 (0,0)):=(h.block p (zgx hp)).trans hp;exact ⟨h1,hcv W' p h1⟩
   have F8:Hid (∀ W:R,qe U 172 #[f H g,f S 8] W fun e w'=>e=qc (A (fxB g 8))∧O W.heap.size W w'∧Pz M (zBq m) m W w'):=fun W=>(zaO g 8 W (by omega)).mono (fun e w' ⟨h1,h2⟩=>⟨h1,h2,hpz _ _ h2⟩);have F1:Hid (∀ W:R,qe U 172 #[f H b.size,f S 1] W fun e w'=>e=qc (A (fxB b.size 1))∧O W.heap.size W w'∧Pz M (zBq m) m W w'):=fun W=>(zaO b.size 1 W (by omega)).mono (fun e w' ⟨h1,h2⟩=>⟨h1,h2,hpz _ _ h2⟩);have s8:(fxB g (8:Int)).size=8:=zac g 8 (by omega);have s1:(fxB b.size (1:Int)).size=1:=zac b.size 1 (by omega);have szm:(zBq m).size=m:=zBq_size m;have HRe:Hid (rest g b=fxB g 8++fxB b.size 1++b++zBq m):=by show _=_;rw [hm];rfl
   have HC:=zh (fun W=>zlJ (rest g b) W (by rw [zfk g b (by omega)];omega));rw [HRe.out] at HC;have HF:Hid (Crc.zaE (fxB g 8++fxB b.size 1++b++zBq m)=cell g b):=by show _=_;unfold cell;rw [HRe.out]
   clear hM hm h0;generalize fxB g (8:Int)=x8 at *;generalize fxB b.size (1:Int)=x1 at *;generalize zBq m=z at *;have q1:¬ 9223372036854775807<x8.size+x1.size:=by omega
   have q2:¬ 9223372036854775807<x8.size+x1.size+b.size:=by omega
   have q3:¬ 9223372036854775807<x8.size+x1.size+b.size+z.size:=by omega
   clear hcv hpz;go_enter func177,ntmps177
   go_wp2_with fail
   go_region_with (first
    | (go_at_call 172;(first|((with_reducible refine (F8.out _).mono ?_);rintro e w1 ⟨rfl,hb1,hp1⟩;(first|(obtain ⟨r1,k1⟩:=hp1 _ (ztJ _ _))|skip))|((with_reducible refine (F1.out _).mono ?_);rintro e w2 ⟨rfl,hb2,hp2⟩;(first|(have h2:=hp2 _ (ztJ _ _);obtain ⟨r2,k2⟩:=h2)|(have h2:=hp2 _ (by assumption);obtain ⟨r2,k2⟩:=h2)|skip))))
    | (go_at_call 219;refine (HC.out _).mono ?_;rintro e w4 ⟨rfl,hb4⟩))
   all_goals
    go_wp2;go_ret2;refine ⟨by rw [HF.out,hs.out,ho.out];rfl,?_⟩
    repeat (first
     | exact qh _ _
     | refine zqX ?_ (by assumption)
     | refine zoF ?_
     | refine zqY ?_)
theorem zhQ (s:ByteArray) (w:R) (hm:s.size≤281474976710656) :
 qe U 188 #[A s] w fun e w'=>e=qc (qd #[f H (zeP s),A (zfU s),qf (gO s)])∧O w.heap.size w w':=by
 by_cases h64:s.size=64
 ·have hx4:Hid (s.extract 4 64=t4 s):=by
   show _=_;unfold t4 zdh;rw [if_pos (show zbC s 4=Z from ztN (by omega)),h64];rfl
  have z1:(t4 s).size≤281474976710656:=ztL (zlY _ _) hm;have z2:(zan (t4 s) 8).size≤281474976710656:=ztL (zgT _ _) z1;have z3:(gR s).size≤281474976710656:=ztL (zgT _ _) z2;have z4:(gB2 s).size≤281474976710656:=ztL (zlX _ _) z3;have hn:=zsi s;have hG:=zl0 s;have hN:=zh (fun W=>zcE (t4 s) W);have y1:Sane (t4 s) I:=fun h=>by cases h
  have K2:=zh (fun (W:R) (h:Rd 261 w.heap.size (t4 s) I W)=>zaI w.heap.size (t4 s) I 8 W h y1 z1);have y2:=zh (Vi.sane_fix _ _ 8 y1);have K3:=zh (fun (b:Bool) (hb:Sane (zan (t4 s) 8) b) (W:R) (h:Rd 261 w.heap.size (zan (t4 s) 8) b W)=>zaI w.heap.size (zan (t4 s) 8) b 1 W h hb z2);have y3:=zh (fun (b:Bool) (hb:Sane (zan (t4 s) 8) b)=>Vi.sane_fix _ _ 1 hb);have K4:=zh (fun (b:Bool) (hb:Sane (gR s) b) (W:R) (h:Rd 261 w.heap.size (gR s) b W)=>zdi w.heap.size (gR s) b (if 51<gN s then 51 else gN s:Nat) W h hb z3);have K5:=zh (fun W=>zhU (gG s) (gB2 s) W hG z4);have E2:Hid (za1 (t4 s) 8=gG s):=rfl;have E3:Hid (za1 (zan (t4 s) 8) 1=gN s):=rfl
  have E4:Hid (zcG (gR s) (if 51<gN s then 51 else gN s:Nat)=gB2 s):=by
   show _=_;unfold gB2;split<;>rfl
  have E5:Hid (zan (zan (t4 s) 8) 1=gR s):=rfl;obtain ⟨o,ho⟩:∃ o,cO (gG s) (gB2 s)=o:=⟨_,rfl⟩;obtain ⟨te,hte⟩:∃ te,((cS (gG s) (gB2 s)).toList==s.toList)=te:=⟨_,rfl⟩;obtain ⟨e1,e2⟩:=zlO s;have hgo:Hid (gO s=(o&&te)):=by show _=_;rw [←e1];unfold gO2;rw [ho,hte]
  have HG:Hid (zeP s=if (o&&te)=Z then gG s else 0):=by show _=_;unfold zeP;rw [hgo.out]
  have HB:Hid (zfU s=if (o&&te)=Z then gB2 s else ⟨#[]⟩):=by
   show _=_;unfold zfU;rw [hgo.out]
   split
   ·rename_i hh;rw [e2 (by rw [hgo.out];exact hh)]
   ·rfl
  rw [ho] at K5;rw [E2.out] at K2;rw [E3.out,E5.out] at K3;rw [E4.out] at K4;rw [E5.out] at y3;obtain ⟨x,hx⟩:∃ x,x=cS (gG s) (gB2 s):=⟨_,rfl⟩;rw [←hx] at K5 hte;obtain ⟨G,hGe⟩:∃ G,G=gG s:=⟨_,rfl⟩;obtain ⟨N,hNe⟩:∃ N,N=gN s:=⟨_,rfl⟩;obtain ⟨B,hBe⟩:∃ B,B=gB2 s:=⟨_,rfl⟩;obtain ⟨T,hT⟩:∃ T,T=t4 s:=⟨_,rfl⟩;obtain ⟨m,hmm⟩:∃ m:Nat,m=(if 51<gN s then 51 else gN s):=⟨_,rfl⟩;rw [←hmm] at K4;have hmn:min (N:Int) 51=(m:Int):=by rw [hmm,hNe];split<;>omega
  have hw:S.wrap (N:Int)=(N:Int):=IntWalk.i64_in _ (by omega);rw [←hGe] at K2 K5 HG;rw [←hNe] at K3;rw [←hBe] at K4 K5 HB;rw [←hT] at hx4 hN K2 K3 y2 y3;obtain ⟨p,hp⟩:∃ p,p=w.heap.size:=⟨_,rfl⟩;rw [←hp] at K2 K3 K4;have R0:Rd 261 p T I (w.alloc (F #[A T,qf I] 261)):=by rw [hp];exact Rd.new w _ _ _
  have B0:O p w (w.alloc (F #[A T,qf I] 261)):=by rw [hp];exact zba
  have HR0:=zh R0;have HB0:=zh B0;have HP:=zh hp;have hs4:¬ (s.size:Int)<4:=by omega
  have hs64:(s.size:Int)=64:=by omega
  have hsb:((s.size:Int) != 64)=I:=by rw [hs64];rfl
  have H64:=zh h64;rw [←HP.out];clear z1 z2 z3 z4 hn hG E2 E3 E4 E5 hx hGe hNe hBe ho hT hmm R0 B0 hp y1 e1 e2;unfold rdp at *;go_enter func188,ntmps188
  go_wp2_with fail
  rw [hx4.out];refine (hN.out _).mono ?_;rintro e w1 ⟨rfl,rfl⟩;rw [←HP.out];have R0:=HR0.out;have B0:=HB0.out;have L0:p≤(w.alloc (F #[A T,qf I] 261)).heap.size:=by rw [HP.out];simp
  clear HR0 HB0 hN hs64 hsb hs4 h64 hx4;generalize w.alloc (F #[A T,qf I] 261)=w1 at *
  go_wp2_with fail
  refine (K2.out _ R0).mono ?_;rintro e w3 ⟨rfl,R2,g2⟩;have B2:=zaa B0 g2 L0 (ztI _);have L2:=ztL L0 g2.size;have y2:=y2.out;generalize (I||!za3 T 8)=b2 at *
  go_wp2_with fail
  refine (K3.out _ y2 _ R2).mono ?_;rintro e w4 ⟨rfl,R3,g3⟩;have B3:=zaa B2 g3 L2 (ztI _);have L3:=ztL L2 g3.size;have y3:=y3.out b2 y2;generalize (b2||!za3 (zan T 8) 1)=b3 at *;clear y2;have Y3:=zh y3;clear y3
  go_wp2_with fail
  refine (K4.out _ Y3.out _ R3).mono ?_;rintro e w5 ⟨rfl,R4,g4⟩;have B4:=zaa B3 g4 L3 (ztI _);have L4:=ztL L3 g4.size;clear R0 R2 R3 R4 g2 g3 g4 B0 B2 B3 L0 L2 L3 K2 K3 K4 Y3;have HTE:=zh hte;clear hte
  go_wp2_with fail
  refine (K5.out _).mono ?_;rintro e w6 ⟨rfl,b5⟩;have B5:=zh (B4.trans (b5.mono L4));have hte:=HTE.out;clear B4 b5 K5 HTE
  cases o with
  | false =>
    clear hte;go_wp2
    go_ret3
    exact ⟨by rw [HG.out,HB.out,hgo.out];rfl,HP.out▸B5.out⟩
  | true =>
    cases te with
    | false =>
      have hne:(x.toList==s.toList)=I:=hte;clear hte;go_wp2
      go_ret3
      exact ⟨by rw [HG.out,HB.out,hgo.out];rfl,HP.out▸B5.out⟩
    | true =>
      have hne:(x.toList==s.toList)=Z:=hte;clear hte;go_wp2
      go_ret3
      exact ⟨by rw [HG.out,HB.out,hgo.out];rfl,HP.out▸B5.out⟩
 ·have hno:Hid (gO s=I):=zoE h64;have HG:Hid (zeP s=0):=zhR.2 hno.out;have HB:Hid (zfU s=⟨#[]⟩):=zhS HG.out;have hsb:((s.size:Int) != 64)=Z:=by simpa using fun h=>h64 (by omega)
  go_enter func188,ntmps188;go_wp2
  go_ret3
  exact ⟨by rw [HG.out,HB.out,hno.out];rfl,qh _ _⟩
open Dk
def hv (g0:Nat) (b0:ByteArray) (g1:Nat) (b1:ByteArray):Array qi:=#[f H g0,A b0,f H g1,A b1]
theorem zl3 (bb g0 g1:Nat) (b0 b1:ByteArray) (w:R) (h:w.heap[bb]?=C (F (hv g0 b0 g1 b1) 279 (0,0))) :
 qe U 214 #[f S 1,f S 0,ptr bb] w fun e w'=>e=qc (qf (decide (g0<g1)))∧∃ n,w'=w.drewN n:=by
 have c0:w.cell? ⟨bb,0,D⟩=C (f H g0):=zcr w bb 0 _ 279 (0,0) h;have c2:w.cell? ⟨bb,2,D⟩=C (f H g1):=zcr w bb 2 _ 279 (0,0) h;have hd:decide ((g0:Int)<(g1:Int))=decide (g0<g1):=by rw [decide_eq_decide];omega
 clear h;unfold ptr;go_enter func214,ntmps214
 go_wp2_with fail
 go_quiet (fail)
 go_wp2;go_ret;exact ⟨by first|rfl|rw [←hd],_,rfl⟩
def zaS (d:St) (at_:Int):Int:=if d.refuses at_≠0 then d.refuses at_ else d.refuses (at_+1)
def zb0 (d:St) (at_:Int):ByteArray:=txt (d.now at_.toNat)
def cG (k j:Nat) (g:Nat):Nat:=if k<j then g else 0
def cB (k j:Nat) (b:ByteArray):ByteArray:=if k<j then b else ⟨#[]⟩
theorem hv4:(prog.info? 279).map (·.size)=C 4:=by kernel_rfl
theorem za5 {rest:List Oper} {a:Act} (hgd:op.guard=D) (x y:Operand) (ho:op.op=.store 279 x y)
 (w:R) (z g0 g1 k0 k1:Nat) (b0 b1 l0 l1:ByteArray) (hx:a.eval x=ql (C ⟨z,0,D⟩)) (hy:a.eval y=.agg (hv g0 b0 g1 b1)) (hz:w.heap[z]?=C (F (hv k0 l0 k1 l1) 279 (0,0)))
 (h:wpList U ops Q rest (a.put op.dst undef) (w.setRow z (hv g0 b0 g1 b1))):wpList U ops Q (op :: rest) a w :=
 wpList_store_row hgd 279 x y ho z _ hx hy 279 _ hz hv4 rfl (by simp [hv,Value.oneCell']) h
theorem zfV {rest:List Oper} {a:Act} (hgd:op.guard=D) (x:Operand) (ho:op.op=.load 279 x)
 (w:R) (z g0 g1:Nat) (b0 b1:ByteArray) (hx:a.eval x=ql (C ⟨z,0,D⟩)) (hz:w.heap[z]?=C (F (hv g0 b0 g1 b1) 279 (0,0)))
 (h:wpList U ops Q rest (a.put op.dst (.agg (hv g0 b0 g1 b1))) w):wpList U ops Q (op :: rest) a w :=
 wpList_load_row hgd 279 x ho z hx 279 _ (0,0) _ hz underlying279 rfl hv4 h
def zfm (d:St) (at_:Int):Array qi:=if zaS d at_=0 then hv (zeP (zb0 d at_)) (zfU (zb0 d at_)) (zeP (zb0 d (at_+1))) (zfU (zb0 d (at_+1))) else hv 0 ⟨#[]⟩ 0 ⟨#[]⟩
theorem zq1 (tmps:Array qi) (w:R) (p:Nat) (cs:Array qi) (hp:tmps.getD 4 undef=ql (C ⟨p,0,D⟩)) (hg:w.heap[p]?=C (F cs 279 (0,0))) (hs:cs.size=4) :
 (results f213 tmps).run U w=.ok (qd #[.agg cs,tmps.getD 5 undef]) w:=by
 rw [results_cell_tmp results213,hp];simp [asAddr,run_loadVar_row w p 279 279 cs (0,0) _ hg underlying279 rfl (by rw [hs];exact hv4)]
theorem zjB {q:Nat} {cs ds:Array qi} (h:w.heap[q]?=C (F cs 279 (0,0))) (i:Nat) (v:qi) (he:cs.setIfInBounds i v=ds):(w.setCell ⟨q,i,D⟩ v).heap[q]?=C (F ds 279 (0,0)):=by
 rw [←he];exact heap_setCell_same w q i _ 279 v h
theorem zoG (g:Nat) (L:List Nat) (d:St) (at_:Int) (w:R) (h:Dv w g L d) (ha1:-9223372036854775808≤at_) (ha2:at_≤9223372036854775807) :
 qe U 213 #[ptr g,f S at_] w fun e w'=>e=qc (qd #[.agg (zfm d at_),f S (zaS d at_)])∧O w.heap.size w w':=by
 have ho:=h.1.n2;obtain ⟨W0,hW0⟩:∃ W0,W0=(w.alloc (F (hv 0 ⟨#[]⟩ 0 ⟨#[]⟩) 279)).alloc (F (hv 0 ⟨#[]⟩ 0 ⟨#[]⟩) 279):=⟨_,rfl⟩;have hb0:O w.heap.size w W0:=by rw [hW0];exact zba.alloc (by simp) _
 have k0:W0.heap[w.heap.size]?=C (F (hv 0 ⟨#[]⟩ 0 ⟨#[]⟩) 279 (0,0)):=by rw [hW0,heap_alloc_old (h:=by simp)];exact ztJ _ _
 have k1:W0.heap[w.heap.size+1]?=C (F (hv 0 ⟨#[]⟩ 0 ⟨#[]⟩) 279 (0,0)):=by rw [hW0];exact heap_alloc2_new _ _ _
 have HD:=zh h;have HW:=zh hW0;have HB0:=zh hb0;have K0:=zh k0;have K1:=zh k1;clear h hb0 k0 k1 hW0;obtain ⟨p,hp⟩:∃ p,p=w.heap.size:=⟨_,rfl⟩;rw [←hp] at K0 K1;have HP:=zh hp;obtain ⟨gA,hgA⟩:∃ x,x=zeP (zb0 d at_):=⟨_,rfl⟩;obtain ⟨bA,hbA⟩:∃ x,x=zfU (zb0 d at_):=⟨_,rfl⟩;obtain ⟨gB,hgB⟩:∃ x,x=zeP (zb0 d (at_+1)):=⟨_,rfl⟩;obtain ⟨bB,hbB⟩:∃ x,x=zfU (zb0 d (at_+1)):=⟨_,rfl⟩;have HV0:Hid (zaS d at_≠0→zfm d at_=hv 0 ⟨#[]⟩ 0 ⟨#[]⟩):=fun h=>by unfold zfm;rw [if_neg h]
 have HV1:Hid (zaS d at_=0→zfm d at_=hv gA bA gB bB):=fun h=>by unfold zfm;rw [if_pos h,hgA,hbA,hgB,hbB]
 have S64:Hid (∀ i:Int,(zb0 d i).size≤281474976710656):=fun i=>by
  unfold zb0;rw [zah,HD.out.1.now];omega
 have KA:=zh (fun W=>zjx (zb0 d at_) W (S64.out _));have KB:=zh (fun W=>zjx (zb0 d (at_+1)) W (S64.out _));rw [←hgA,←hbA] at KA;rw [←hgB,←hbB] at KB;have KR:=zh (fun (i:Int) (W:R) (hb:O p w W)=>zd6 g L d i W (HD.out.below (by rw [←HP.out];exact hb)));clear hp hgA hbA hgB hbB;unfold ptr at *;go_enter func213,ntmps213
 go_wp2_with fail
 refine zaf (w:=W0) HW.out.symm ?_;rw [←HP.out]
 go_loopw [7,8,9,10] (fun _ _ _ i wr=>∃ j:Nat,j≤2∧i=f S j∧wr.heap[p]?=C (F (hv 0 ⟨#[]⟩ 0 ⟨#[]⟩) 279 (0,0))∧wr.heap[p+1]?=C (F (hv (cG 0 j gA) (cB 0 j bA) (cG 1 j gB) (cB 1 j bB)) 279 (0,0))∧O p w wr∧(0<j→d.refuses at_=0)∧(1<j→d.refuses (at_+1)=0)) (fun _ _ _ i _=>2-(RowKit.intOf i).toNat)
 case atStart=>exact ⟨0,by omega,rfl,K0.out,K1.out,by rw [HP.out];exact HB0.out,fun h=>by omega,fun h=>by omega⟩
 case round =>
  obtain ⟨j,hj,rfl,r0,r1,hbr,q0,q1⟩:=hrel;have hsz:=hbr.size;obtain rfl|rfl|rfl:j=0∨j=1∨j=2:=by omega
  ·have hwa:S.wrap at_=at_:=IntWalk.i64_in _ (by omega);have K:=zh (KR.out at_ wr hbr);have RT:Hid (d.refuses at_=0→txt (d.readS at_)=zb0 d at_):=fun h=>by unfold St.readS zb0;rw [if_pos h]
   have HE:Hid (d.refuses at_≠0→zaS d at_=d.refuses at_):=fun h=>by unfold zaS;rw [if_pos h]
   have R0:=zh r0;have R1:Hid (wr.heap[p+1]?=C (F (hv 0 ⟨#[]⟩ 0 ⟨#[]⟩) 279 (0,0))):=r1;have B:=zh hbr;clear r0 r1 hbr q0 q1 KR K0 K1 HB0;obtain ⟨re,hre⟩:∃ re,re=d.refuses at_:=⟨_,rfl⟩;obtain ⟨rs,hrs⟩:∃ rs,rs=txt (d.readS at_):=⟨_,rfl⟩;rw [←hre] at K RT HE;rw [←hrs] at K RT;have HRE:=zh hre;clear hre hrs
   go_wp2_with fail
   refine K.out.mono ?_;rintro e w1 ⟨rfl,b1⟩
   by_cases hz:re=0
   ·have hrs2:=RT.out hz;subst hrs2;have HZ:=zh hz;rw [hz];clear hz
    go_wp2_with fail
    refine (KA.out _).mono ?_;rintro e w2 ⟨rfl,b2⟩;have b12:=b1.trans (b2.mono b1.size);have x0:=(b12.block p (zgx R0.out)).trans R0.out;have x1:=(b12.block (p+1) (zgx R1.out)).trans R1.out;have c0:w2.cell? ⟨p+1,0,D⟩=C (f H 0):=zcr w2 (p+1) 0 _ 279 (0,0) x1;have f0:w2.frozen? ⟨p+1,0,D⟩=I:=frozen_of_row w2 (p+1) 0 _ 279 x1;have x2:=zjB x1 0 (f H gA) (ds:=hv gA ⟨#[]⟩ 0 ⟨#[]⟩) rfl;have c1:(w2.setCell ⟨p+1,0,D⟩ (f H gA)).cell? ⟨p+1,1,D⟩=C (A ⟨#[]⟩):=zcr _ (p+1) 1 _ 279 (0,0) x2;have f1:(w2.setCell ⟨p+1,0,D⟩ (f H gA)).frozen? ⟨p+1,1,D⟩=I:=frozen_of_row _ (p+1) 1 _ 279 x2;have x3:=zjB x2 1 (A bA) (ds:=hv gA bA 0 ⟨#[]⟩) rfl;have bq:O p w2 ((w2.setCell ⟨p+1,0,D⟩ (f H gA)).setCell ⟨p+1,1,D⟩ (A bA)):=((qh _ _).setCell (p:=⟨p+1,0,D⟩) (by show p≤p+1;omega) _).setCell (p:=⟨p+1,1,D⟩) (by show p≤p+1;omega) _
    have y0:((w2.setCell ⟨p+1,0,D⟩ (f H gA)).setCell ⟨p+1,1,D⟩ (A bA)).heap[p]?=C (F (hv 0 ⟨#[]⟩ 0 ⟨#[]⟩) 279 (0,0)):=by
     rw [heap_setCell_other _ _ p _ (by show p≠p+1;omega),heap_setCell_other _ _ p _ (by show p≠p+1;omega)];exact x0
    have X3:=zh x3;have Y0:=zh y0;have BQ:=zh ((B.out.trans (b12.mono (by rw [HP.out];exact B.out.size))).trans bq);clear x0 x1 x2 x3 bq y0 b12 b1 b2 K KA RT HE R0 R1 B
    go_wp2_with fail
    go_roundw
    case rel=>exact ⟨1,by omega,by go_num,Y0.out,X3.out,BQ.out,fun _=>by rw [←HRE.out];exact HZ.out,fun h=>by omega⟩
    case measure=>simp [RowKit.intOf]
   ·have hbz:(re != 0)=Z:=by simpa using hz
    have hne:zaS d at_=re:=HE.out hz;have hz2:zaS d at_≠0:=by rw [hne];exact hz
    have HX:Hid (zfm d at_=hv 0 ⟨#[]⟩ 0 ⟨#[]⟩):=HV0.out hz2;have HNE:=zh hne;have BB:Hid (O w.heap.size w w1):=by rw [←HP.out];exact B.out.trans (b1.mono (by rw [HP.out];exact B.out.size))
    have hsz1:=BB.out.size;have r0':=zh ((b1.block p (zgx R0.out)).trans R0.out);clear hne hz2 hz K RT HE KA KB b1
    go_wp2_with (refine za5 rfl _ _ rfl _ p 0 0 0 0 ⟨#[]⟩ ⟨#[]⟩ ⟨#[]⟩ ⟨#[]⟩ rfl rfl r0'.out ?_;go_frame)
    refine ztP (v:=qd #[.agg (hv 0 ⟨#[]⟩ 0 ⟨#[]⟩),f S re]) ?_ rfl ?_
    ·exact zq1 _ _ p _ rfl (setRow_heap _ _ _ _ 279 (0,0) r0'.out) rfl
    exact ⟨by rw [HX.out,HNE.out],BB.out.trans ⟨rfl,rfl,rfl,by simp,fun k hk=>setRow_other _ _ _ _ (by have:=HP.out;omega)⟩⟩
  ·have e1:=q0 (by omega);obtain ⟨n1,n2,_⟩:=zbd e1;have hwa:S.wrap (at_+1)=at_+1:=IntWalk.i64_in _ (by omega);have E1:=zh e1;clear e1;have K:=zh (KR.out (at_+1) wr hbr);have RT:Hid (d.refuses (at_+1)=0→txt (d.readS (at_+1))=zb0 d (at_+1)):=fun h=>by unfold St.readS zb0;rw [if_pos h]
   have HE:Hid (zaS d at_=d.refuses (at_+1)):=by show _=_;unfold zaS;rw [if_neg (by rw [E1.out];simp)]
   have R0:=zh r0;have R1:Hid (wr.heap[p+1]?=C (F (hv gA bA 0 ⟨#[]⟩) 279 (0,0))):=r1;have B:=zh hbr;clear r0 r1 hbr q0 q1 KR n1 n2 K0 K1 HB0;obtain ⟨re,hre⟩:∃ re,re=d.refuses (at_+1):=⟨_,rfl⟩;obtain ⟨rs,hrs⟩:∃ rs,rs=txt (d.readS (at_+1)):=⟨_,rfl⟩;rw [←hre] at K RT HE;rw [←hrs] at K RT;have HRE:=zh hre;clear hre hrs
   go_wp2_with fail
   refine K.out.mono ?_;rintro e w1 ⟨rfl,b1⟩
   by_cases hz:re=0
   ·have hrs2:=RT.out hz;subst hrs2;have HZ:=zh hz;rw [hz];clear hz
    go_wp2_with fail
    refine (KB.out _).mono ?_;rintro e w2 ⟨rfl,b2⟩;have b12:=b1.trans (b2.mono b1.size);have x0:=(b12.block p (zgx R0.out)).trans R0.out;have x1:=(b12.block (p+1) (zgx R1.out)).trans R1.out;have c0:w2.cell? ⟨p+1,2,D⟩=C (f H 0):=zcr w2 (p+1) 2 _ 279 (0,0) x1;have f0:w2.frozen? ⟨p+1,2,D⟩=I:=frozen_of_row w2 (p+1) 2 _ 279 x1;have x2:=zjB x1 2 (f H gB) (ds:=hv gA bA gB ⟨#[]⟩) rfl;have c1:(w2.setCell ⟨p+1,2,D⟩ (f H gB)).cell? ⟨p+1,3,D⟩=C (A ⟨#[]⟩):=zcr _ (p+1) 3 _ 279 (0,0) x2;have f1:(w2.setCell ⟨p+1,2,D⟩ (f H gB)).frozen? ⟨p+1,3,D⟩=I:=frozen_of_row _ (p+1) 3 _ 279 x2;have x3:=zjB x2 3 (A bB) (ds:=hv gA bA gB bB) rfl;have bq:O p w2 ((w2.setCell ⟨p+1,2,D⟩ (f H gB)).setCell ⟨p+1,3,D⟩ (A bB)):=((qh _ _).setCell (p:=⟨p+1,2,D⟩) (by show p≤p+1;omega) _).setCell (p:=⟨p+1,3,D⟩) (by show p≤p+1;omega) _
    have y0:((w2.setCell ⟨p+1,2,D⟩ (f H gB)).setCell ⟨p+1,3,D⟩ (A bB)).heap[p]?=C (F (hv 0 ⟨#[]⟩ 0 ⟨#[]⟩) 279 (0,0)):=by
     rw [heap_setCell_other _ _ p _ (by show p≠p+1;omega),heap_setCell_other _ _ p _ (by show p≠p+1;omega)];exact x0
    have X3:=zh x3;have Y0:=zh y0;have BQ:=zh ((B.out.trans (b12.mono (by rw [HP.out];exact B.out.size))).trans bq);clear x0 x1 x2 x3 bq y0 b12 b1 b2 K KB RT HE R0 R1 B
    go_wp2_with fail
    go_roundw
    case rel=>exact ⟨2,by omega,by go_num,Y0.out,X3.out,BQ.out,fun _=>E1.out,fun _=>by rw [←HRE.out];exact HZ.out⟩
    case measure=>simp [RowKit.intOf]
   ·have hbz:(re != 0)=Z:=by simpa using hz
    have hne:zaS d at_=re:=HE.out;have hz2:zaS d at_≠0:=by rw [hne];exact hz
    have HX:Hid (zfm d at_=hv 0 ⟨#[]⟩ 0 ⟨#[]⟩):=HV0.out hz2;have HNE:=zh hne;have BB:Hid (O w.heap.size w w1):=by rw [←HP.out];exact B.out.trans (b1.mono (by rw [HP.out];exact B.out.size))
    have hsz1:=BB.out.size;have r0':=zh ((b1.block p (zgx R0.out)).trans R0.out);clear hne hz2 hz K RT HE KA KB b1
    go_wp2_with (refine za5 rfl _ _ rfl _ p 0 0 0 0 ⟨#[]⟩ ⟨#[]⟩ ⟨#[]⟩ ⟨#[]⟩ rfl rfl r0'.out ?_;go_frame)
    refine ztP (v:=qd #[.agg (hv 0 ⟨#[]⟩ 0 ⟨#[]⟩),f S re]) ?_ rfl ?_
    ·exact zq1 _ _ p _ rfl (setRow_heap _ _ _ _ 279 (0,0) r0'.out) rfl
    exact ⟨by rw [HX.out,HNE.out],BB.out.trans ⟨rfl,rfl,rfl,by simp,fun k hk=>setRow_other _ _ _ _ (by have:=HP.out;omega)⟩⟩
  ·have e1:=q0 (by omega);have e2:=q1 (by omega);have hE:zaS d at_=0:=by unfold zaS;rw [if_neg (by rw [e1];simp)];exact e2
   have HX:Hid (zfm d at_=hv gA bA gB bB):=HV1.out hE;have HNE:=zh hE;have r1':wr.heap[p+1]?=C (F (hv gA bA gB bB) 279 (0,0)):=r1;have R0:=zh r0;have R1:=zh r1';have BB:Hid (O w.heap.size w wr):=by rw [←HP.out];exact hbr
   have hsz1:=BB.out.size;clear e1 e2 hE r1 r1' q0 q1 r0 hbr KA KB KR K0 K1 HB0
   go_wp2_with (first
    | (refine zfV rfl _ rfl _ (p+1) _ _ _ _ rfl R1.out ?_;go_frame)
    | (refine za5 rfl _ _ rfl _ p _ _ _ _ _ _ _ _ rfl rfl R0.out ?_;go_frame))
   exact ztP (v:=qd #[.agg (hv gA bA gB bB),f S 0]) (zq1 _ _ p _ rfl (setRow_heap _ _ _ _ 279 (0,0) R0.out) rfl) rfl
    ⟨by rw [HX.out,HNE.out],BB.out.trans ⟨rfl,rfl,rfl,by simp,fun k hk=>setRow_other _ _ _ _ (by have:=HP.out;omega)⟩⟩
def gAt (d:St) (i:Int):Nat:=zeP (zb0 d i)
def bAt (d:St) (i:Int):ByteArray:=zfU (zb0 d i)
def rdE (d:St) (a:Int):Int:=if zaS d a≠0 then zaS d a else if gAt d a=0∧gAt d (a+1)=0 then 6 else 0
def rdK (d:St) (a:Int):Nat:=if rdE d a=0 then (if gAt d a<gAt d (a+1) then 1 else 0) else 0
def rdG (d:St) (a:Int):Nat:=if rdE d a=0 then (if gAt d a<gAt d (a+1) then gAt d (a+1) else gAt d a) else 0
def rdB (d:St) (a:Int):ByteArray:=if rdE d a=0 then (if gAt d a<gAt d (a+1) then bAt d (a+1) else bAt d a) else ⟨#[]⟩
def rdV (d:St) (a:Int):Ending:=qc (qd #[A (rdB d a),f H (rdG d a),f S (rdK d a),f S (rdE d a)])
theorem ziM {d:St} (h:zaS d a≠0):rdV d a=qc (qd #[A ⟨#[]⟩,f H (0:Nat),f S (0:Nat),f S (zaS d a)]):=by
 have e:rdE d a=zaS d a:=by unfold rdE;rw [if_pos h]
 unfold rdV rdB rdG rdK;rw [e,if_neg h,if_neg h,if_neg h]
theorem zjC {d:St} (h:zaS d a=0) (h0:gAt d a=0) (h1:gAt d (a+1)=0):rdV d a=qc (qd #[A ⟨#[]⟩,f H (0:Nat),f S (0:Nat),f S 6]):=by
 have e:rdE d a=6:=by unfold rdE;rw [if_neg (by rw [h];simp),if_pos ⟨h0,h1⟩]
 unfold rdV rdB rdG rdK;rw [e,if_neg (by decide),if_neg (by decide),if_neg (by decide)]
theorem zeQ {d:St} (h:zaS d a=0) (h0:gAt d a≠0∨gAt d (a+1)≠0):rdE d a=0:=by
 unfold rdE;rw [if_neg (by rw [h];simp),if_neg (by omega)]
theorem zl4 {d:St} (h:zaS d a=0) (h0:gAt d a<gAt d (a+1)):rdV d a=qc (qd #[A (bAt d (a+1)),f H (gAt d (a+1)),f S (1:Nat),f S 0]):=by
 have e:rdE d a=0:=zeQ h (by omega);unfold rdV rdB rdG rdK;rw [e,if_pos rfl,if_pos rfl,if_pos rfl,if_pos h0,if_pos h0,if_pos h0]
theorem zjD {d:St} (h:zaS d a=0) (h0:¬ gAt d a<gAt d (a+1)) (h1:gAt d a≠0):rdV d a=qc (qd #[A (bAt d a),f H (gAt d a),f S (0:Nat),f S 0]):=by
 have e:rdE d a=0:=zeQ h (by omega);unfold rdV rdB rdG rdK;rw [e,if_pos rfl,if_pos rfl,if_pos rfl,if_neg h0,if_neg h0,if_neg h0]
theorem h2:(prog.info? 278).map (·.size)=C 2:=by kernel_rfl
theorem zbT {rest:List Oper} {a:Act} (hgd:op.guard=D) (x y:Operand) (ho:op.op=.store 278 x y)
 (w:R) (z g0 k0:Nat) (b0 l0:ByteArray) (hx:a.eval x=ql (C ⟨z,0,D⟩)) (hy:a.eval y=.agg #[f H g0,A b0]) (hz:w.heap[z]?=C (F #[f H k0,A l0] 278 (0,0)))
 (h:wpList U ops Q rest (a.put op.dst undef) (w.setRow z #[f H g0,A b0])):wpList U ops Q (op :: rest) a w :=
 wpList_store_row hgd 278 x y ho z _ hx hy 278 _ hz h2 rfl (by simp [Value.oneCell']) h
theorem zfn (g:Nat) (L:List Nat) (d:St) (at_:Int) (w:R) (h:Dv w g L d) (ha1:-9223372036854775808≤at_) (ha2:at_≤9223372036854775807) :
 qe U 167 #[ptr g,f S at_] w fun e w'=>e=rdV d at_∧O w.heap.size w w':=by
 have K:=zh (zoG g L d at_ w h ha1 ha2);clear h ha1 ha2;obtain ⟨E,hE⟩:∃ E,E=zaS d at_:=⟨_,rfl⟩;obtain ⟨V,hV⟩:∃ V,V=zfm d at_:=⟨_,rfl⟩;rw [←hE,←hV] at K
 by_cases hz:E=0
 ·have hV2:V=hv (gAt d at_) (bAt d at_) (gAt d (at_+1)) (bAt d (at_+1)):=by rw [hV];unfold zfm;rw [if_pos (by rw [←hE];exact hz)];rfl
  have hB:zaS d at_=0:=by rw [←hE];exact hz
  have R0:Hid (gAt d at_=0→gAt d (at_+1)=0→_):=fun h0 h1=>zjC hB h0 h1;have R1:=zh (zl4 hB);have R2:=zh (zjD hB);rw [hz,hV2] at K;clear hE hV hV2 hz hB V;generalize gAt d at_=g0 at *;generalize bAt d at_=b0 at *;generalize gAt d (at_+1)=g1 at *;generalize bAt d (at_+1)=b1 at *;unfold ptr at *;go_enter func167,ntmps167
  go_wp2_with fail
  refine K.out.mono ?_;rintro e w1 ⟨rfl,hb1⟩;obtain ⟨W,hW⟩:∃ W,W=(w1.alloc (F (hv 0 ⟨#[]⟩ 0 ⟨#[]⟩) 279)).setRow w1.heap.size (hv g0 b0 g1 b1):=⟨_,rfl⟩;obtain ⟨q,hq⟩:∃ q,q=w1.heap.size:=⟨_,rfl⟩;have k0:(w1.alloc (F (hv 0 ⟨#[]⟩ 0 ⟨#[]⟩) 279)).heap[w1.heap.size]?=C (F (hv 0 ⟨#[]⟩ 0 ⟨#[]⟩) 279 (0,0)):=ztJ _ _;have hh:W.heap[q]?=C (F (hv g0 b0 g1 b1) 279 (0,0)):=by rw [hW,hq];exact setRow_heap _ _ _ _ 279 (0,0) k0
  have hbW:O w.heap.size w W:=by
   rw [hW];exact (hb1.alloc hb1.size _).trans ⟨rfl,rfl,rfl,by simp,fun k hk=>setRow_other _ _ _ _ (by have:=hb1.size;omega)⟩
  have K0:=zh k0;have HW:=zh hW;have HH:=zh hh;have HB:=zh hbW;have HQ:=zh hq;clear K k0 hW hh hbW hq hb1
  go_wp2_with (refine za5 rfl _ _ rfl _ _ g0 g1 0 0 b0 b1 ⟨#[]⟩ ⟨#[]⟩ rfl rfl K0.out ?_;refine zab HW.out.symm ?_;rw [←HQ.out];go_frame)
  clear K0;have c0:W.cell? ⟨q,0,D⟩=C (f H g0):=zcr W q 0 _ 279 (0,0) HH.out;have c1:W.cell? ⟨q,1,D⟩=C (A b0):=zcr W q 1 _ 279 (0,0) HH.out;have c2:W.cell? ⟨q,2,D⟩=C (f H g1):=zcr W q 2 _ 279 (0,0) HH.out;have c3:W.cell? ⟨q,3,D⟩=C (A b1):=zcr W q 3 _ 279 (0,0) HH.out;have KN:=zh (zl3 q g0 g1 b0 b1 W HH.out);unfold ptr at KN
  by_cases hlt:g0<g1
  ·rw [ztN hlt] at KN;have R1':=zh (R1.out hlt);have hg1:((g1:Int)==0)=I:=by simpa using (by omega:g1≠0)
   have hg1':decide (g1=0)=I:=ztM (by omega);clear R0 R1 R2 hlt
   go_wp2_with fail
   refine KN.out.mono ?_;rintro e w2 ⟨rfl,n2,rfl⟩;have c0':(W.drewN n2).cell? ⟨q,0,D⟩=C (f H g0):=c0;have c1':(W.drewN n2).cell? ⟨q,1,D⟩=C (A b0):=c1;have c2':(W.drewN n2).cell? ⟨q,2,D⟩=C (f H g1):=c2;have c3':(W.drewN n2).cell? ⟨q,3,D⟩=C (A b1):=c3;have HB3:Hid (O w.heap.size w (W.drewN n2)):=HB.out.trans ⟨rfl,rfl,rfl,ztI _,fun _ _=>rfl⟩;clear c0 c1 c2 c3 HW HH HB KN HQ;generalize W.drewN n2=X at *;clear W;have k0:(X.alloc (F #[f H (0:Nat),A ⟨#[]⟩] 278)).heap[X.heap.size]?=C (F #[f H (0:Nat),A ⟨#[]⟩] 278 (0,0)):=ztJ _ _;obtain ⟨Y,hY⟩:∃ Y,Y=(X.alloc (F #[f H (0:Nat),A ⟨#[]⟩] 278)).setRow X.heap.size #[f H g1,A b1]:=⟨_,rfl⟩;have hb1:=HB3.out
   have hbY:O w.heap.size w Y:=by
    rw [hY];exact (hb1.alloc hb1.size _).trans ⟨rfl,rfl,rfl,by simp,fun k hk=>setRow_other _ _ _ _ (by have:=hb1.size;omega)⟩
   obtain ⟨r,hr⟩:∃ r,r=X.heap.size:=⟨_,rfl⟩;have hy:Y.heap[r]?=C (F #[f H g1,A b1] 278 (0,0)):=by rw [hY,hr];exact setRow_heap _ _ _ _ 278 (0,0) k0
   have y0:Y.cell? ⟨r,0,D⟩=C (f H g1):=zcr Y r 0 _ 278 (0,0) hy;have y1:Y.cell? ⟨r,1,D⟩=C (A b1):=zcr Y r 1 _ 278 (0,0) hy;have K0:=zh k0;have HY:=zh hY;have HBY:=zh hbY;have HR:=zh hr;clear k0 hY hbY hr hb1 hy
   go_wp2_with (refine zbT rfl _ _ rfl _ _ g1 0 b1 ⟨#[]⟩ rfl rfl K0.out ?_;refine zab HY.out.symm ?_;rw [←HR.out];go_frame)
   go_quiet (fail)
   go_wp2;refine ztP (v:=_) (by simp [results,results167,go_sem]) rfl ⟨R1'.out.symm,HBY.out.trans ⟨rfl,rfl,rfl,ztI _,fun _ _=>rfl⟩⟩
  ·rw [ztM hlt] at KN
   by_cases h00:g0=0
   ·have R1':=zh (R0.out h00 (by omega));subst h00;clear R0 R1 R2 hlt
    go_wp2_with fail
    refine KN.out.mono ?_;rintro e w2 ⟨rfl,n2,rfl⟩;have c0':(W.drewN n2).cell? ⟨q,0,D⟩=C (f H (0:Nat)):=c0;have c1':(W.drewN n2).cell? ⟨q,1,D⟩=C (A b0):=c1;have c2':(W.drewN n2).cell? ⟨q,2,D⟩=C (f H g1):=c2;have c3':(W.drewN n2).cell? ⟨q,3,D⟩=C (A b1):=c3;have HB3:Hid (O w.heap.size w (W.drewN n2)):=HB.out.trans ⟨rfl,rfl,rfl,ztI _,fun _ _=>rfl⟩;clear c0 c1 c2 c3 HW HH HB KN HQ;generalize W.drewN n2=X at *;clear W;have k0:(X.alloc (F #[f H (0:Nat),A ⟨#[]⟩] 278)).heap[X.heap.size]?=C (F #[f H (0:Nat),A ⟨#[]⟩] 278 (0,0)):=ztJ _ _;obtain ⟨Y,hY⟩:∃ Y,Y=(X.alloc (F #[f H (0:Nat),A ⟨#[]⟩] 278)).setRow X.heap.size #[f H (0:Nat),A b0]:=⟨_,rfl⟩;have hb1:=HB3.out
    have hbY:O w.heap.size w Y:=by
     rw [hY];exact (hb1.alloc hb1.size _).trans ⟨rfl,rfl,rfl,by simp,fun k hk=>setRow_other _ _ _ _ (by have:=hb1.size;omega)⟩
    obtain ⟨r,hr⟩:∃ r,r=X.heap.size:=⟨_,rfl⟩;have hy:Y.heap[r]?=C (F #[f H (0:Nat),A b0] 278 (0,0)):=by rw [hY,hr];exact setRow_heap _ _ _ _ 278 (0,0) k0
    have y0:Y.cell? ⟨r,0,D⟩=C (f H (0:Nat)):=zcr Y r 0 _ 278 (0,0) hy;have y1:Y.cell? ⟨r,1,D⟩=C (A b0):=zcr Y r 1 _ 278 (0,0) hy;have K0:=zh k0;have HY:=zh hY;have HBY:=zh hbY;have HR:=zh hr;clear k0 hY hbY hr hb1 hy
    go_wp2_with (refine zbT rfl _ _ rfl _ _ 0 0 b0 ⟨#[]⟩ rfl rfl K0.out ?_;refine zab HY.out.symm ?_;rw [←HR.out];go_frame)
    refine ztP (v:=_) (by simp [results,results167,go_sem]) rfl ⟨R1'.out.symm,HBY.out⟩
   ·have R1':=zh (R2.out hlt h00);have hg1:((g0:Int)==0)=I:=by simpa using (by omega:g0≠0)
    have hg1':decide (g0=0)=I:=ztM (by omega);clear R0 R1 R2 hlt
    go_wp2_with fail
    refine KN.out.mono ?_;rintro e w2 ⟨rfl,n2,rfl⟩;have c0':(W.drewN n2).cell? ⟨q,0,D⟩=C (f H g0):=c0;have c1':(W.drewN n2).cell? ⟨q,1,D⟩=C (A b0):=c1;have c2':(W.drewN n2).cell? ⟨q,2,D⟩=C (f H g1):=c2;have c3':(W.drewN n2).cell? ⟨q,3,D⟩=C (A b1):=c3;have HB3:Hid (O w.heap.size w (W.drewN n2)):=HB.out.trans ⟨rfl,rfl,rfl,ztI _,fun _ _=>rfl⟩;clear c0 c1 c2 c3 HW HH HB KN HQ;generalize W.drewN n2=X at *;clear W;have k0:(X.alloc (F #[f H (0:Nat),A ⟨#[]⟩] 278)).heap[X.heap.size]?=C (F #[f H (0:Nat),A ⟨#[]⟩] 278 (0,0)):=ztJ _ _;obtain ⟨Y,hY⟩:∃ Y,Y=(X.alloc (F #[f H (0:Nat),A ⟨#[]⟩] 278)).setRow X.heap.size #[f H g0,A b0]:=⟨_,rfl⟩;have hb1:=HB3.out
    have hbY:O w.heap.size w Y:=by
     rw [hY];exact (hb1.alloc hb1.size _).trans ⟨rfl,rfl,rfl,by simp,fun k hk=>setRow_other _ _ _ _ (by have:=hb1.size;omega)⟩
    obtain ⟨r,hr⟩:∃ r,r=X.heap.size:=⟨_,rfl⟩;have hy:Y.heap[r]?=C (F #[f H g0,A b0] 278 (0,0)):=by rw [hY,hr];exact setRow_heap _ _ _ _ 278 (0,0) k0
    have y0:Y.cell? ⟨r,0,D⟩=C (f H g0):=zcr Y r 0 _ 278 (0,0) hy;have y1:Y.cell? ⟨r,1,D⟩=C (A b0):=zcr Y r 1 _ 278 (0,0) hy;have K0:=zh k0;have HY:=zh hY;have HBY:=zh hbY;have HR:=zh hr;clear k0 hY hbY hr hb1 hy
    go_wp2_with (refine zbT rfl _ _ rfl _ _ g0 0 b0 ⟨#[]⟩ rfl rfl K0.out ?_;refine zab HY.out.symm ?_;rw [←HR.out];go_frame)
    go_quiet (fail)
    go_wp2;refine ztP (v:=_) (by simp [results,results167,go_sem]) rfl ⟨R1'.out.symm,HBY.out.trans ⟨rfl,rfl,rfl,ztI _,fun _ _=>rfl⟩⟩
 ·have HR:=zh (ziM (d:=d) (a:=at_) (by rw [←hE];exact hz));rw [←hE] at HR;have hbz:(E != 0)=Z:=by simpa using hz
  have hV2:V=hv 0 ⟨#[]⟩ 0 ⟨#[]⟩:=by rw [hV];unfold zfm;rw [if_neg (by rw [←hE];exact hz)]
  rw [hV2] at K;clear hE hV hV2 hz V;unfold ptr at *;go_enter func167,ntmps167
  go_wp2_with fail
  refine K.out.mono ?_;rintro e w1 ⟨rfl,hb1⟩;obtain ⟨W,hW⟩:∃ W,W=(w1.alloc (F (hv 0 ⟨#[]⟩ 0 ⟨#[]⟩) 279)).setRow w1.heap.size (hv 0 ⟨#[]⟩ 0 ⟨#[]⟩):=⟨_,rfl⟩;have k0:(w1.alloc (F (hv 0 ⟨#[]⟩ 0 ⟨#[]⟩) 279)).heap[w1.heap.size]?=C (F (hv 0 ⟨#[]⟩ 0 ⟨#[]⟩) 279 (0,0)):=ztJ _ _
  have hbW:O w.heap.size w W:=by
   rw [hW];exact (hb1.alloc hb1.size _).trans ⟨rfl,rfl,rfl,by simp,fun k hk=>setRow_other _ _ _ _ (by have:=hb1.size;omega)⟩
  have K0:=zh k0;have HW:=zh hW;have HB:=zh hbW;clear K k0 hW hbW hb1
  go_wp2_with (refine za5 rfl _ _ rfl _ _ 0 0 0 0 ⟨#[]⟩ ⟨#[]⟩ ⟨#[]⟩ ⟨#[]⟩ rfl rfl K0.out ?_;refine zab HW.out.symm ?_;go_frame)
  refine ztP (v:=_) (by simp [results,results167,go_sem]) rfl ⟨HR.out.symm,HB.out⟩
end J
end Go.Proofs.YtidndekacnmihaaGreat
