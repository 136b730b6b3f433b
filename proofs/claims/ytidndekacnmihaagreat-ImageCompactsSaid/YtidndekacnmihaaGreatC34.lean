/- Parts of a proof. -/
import Derived.Test.YtidndekacnmihaaGreatC23
set_option linter.all false
set_option maxHeartbeats 8000000
set_option maxRecDepth 100000
namespace Go.Proofs.YtidndekacnmihaaGreat
open Bool renaming true→H,false→I
open Ending renaming returned→E
open Go renaming World→C,Calls→F
open Go.RowKit renaming Below→D
open Go.RowKit.Below renaming refl→P
open IntKind renaming i64→f,u64→B
open Obj renaming cells→l
open Option renaming some→j,none→q
open Tryz renaming prog→A
open Value renaming int→d,string→G,pointer→L,tuple→M,bool→N,agg→O
open Tryz
variable {W W' w:C} {R g:Nat} {ops:Array Oper} {rest:List Oper} {op:Oper} {a:Act} {Q:Exit→Act→C→Prop} {o:Obj} {u:ByteArray}
namespace J
open Go.RowKit Vi Sl
theorem ru7:(prog.info? 99).map (·.size)=j 7:=by kernel_rfl
theorem rd3:(prog.info? 110).map (·.size)=j 3:=by kernel_rfl
theorem zbG {s:Su} (h:w.heap[g]?=j (l s.c 99 (0,0))) :
 w.cell? ⟨g,0,q⟩=j (d f s.v)∧w.cell? ⟨g,1,q⟩=j (d f s.sn)∧w.cell? ⟨g,2,q⟩=j (d f s.lg)∧w.cell? ⟨g,3,q⟩=j (d f s.ar)∧w.cell? ⟨g,4,q⟩=j (d f s.hf)∧w.cell? ⟨g,5,q⟩=j (d f s.gl)∧w.cell? ⟨g,6,q⟩=j (d f s.sp) :=
 ⟨zcr w g 0 _ 99 (0,0) h,zcr w g 1 _ 99 (0,0) h,zcr w g 2 _ 99 (0,0) h,zcr w g 3 _ 99 (0,0) h,zcr w g 4 _ 99 (0,0) h,zcr w g 5 _ 99 (0,0) h,zcr w g 6 _ 99 (0,0) h⟩
theorem zcC {h:Hd} (hh:w.heap[g]?=j (l h.c 110 (0,0))) :
 w.cell? ⟨g,0,q⟩=j (d B h.tm)∧w.cell? ⟨g,1,q⟩=j (d f h.vo)∧w.cell? ⟨g,2,q⟩=j (d B h.cm) :=
 ⟨zcr w g 0 _ 110 (0,0) hh,zcr w g 1 _ 110 (0,0) hh,zcr w g 2 _ 110 (0,0) hh⟩
theorem zbp (v:Int) (n k:Nat) (w:C) (hn:n<18446744073709551616):F A 176 #[d f v,d B n,d f k] w fun e w'=>e=E (G (num v n k))∧D w.heap.size w w':=by
 have K1:=zh (zaO n k w hn);have K2:=zh (zbH n w hn);have HN:Hid (num v n k=if v=1 then fxB n k else zaE n):=rfl
 by_cases h1:v=1
 ·subst h1;go_enter func176,ntmps176
  go_wp2_with fail
  refine K1.out.mono ?_;rintro e w1 ⟨rfl,b1⟩;go_wp2;go_ret;exact ⟨rfl,b1⟩
 ·have he:(v==1)=I:=by simpa using h1
  have hx:Hid (num v n k=zaE n):=by show _=_;rw [HN.out,if_neg h1]
  have H1:=zh h1;clear h1 HN;go_enter func176,ntmps176
  go_wp2_with fail
  refine K2.out.mono ?_;rintro e w1 ⟨rfl,b1⟩;go_wp2;go_ret;exact ⟨by rw [hx.out];rfl,b1⟩
theorem zoA (v:Int) (R:Nat) (u:ByteArray) (k:Nat) (W:C) (h:∃ bad,Rd 261 R u bad W∧Sane u bad) (hu:u.size≤281474976710656) :
 F A 191 #[L (j ⟨R,0,q⟩),d f v,d f k] W fun e w'=>e=E (d B (zaR v u k))∧(∃ bad,Rd 261 R (zaN v u k) bad w'∧Sane (zaN v u k) bad)∧W.grownBy w' (j R):=by
 obtain ⟨bad,h,hs⟩:=h;have K1:=zh (zaI R u bad k W h hs hu);have K2:=zh (zeV R u bad W h hu);have S1:=zh (sane_fix u bad k hs);have S2:=zh (sane_var u bad hs);clear h hs;unfold rdp at *
 by_cases h1:v=1
 ·subst h1;go_enter func191,ntmps191
  go_wp2_with fail
  refine K1.out.mono ?_;rintro e w1 ⟨rfl,h1,h2⟩;go_wp2;go_ret;exact ⟨rfl,⟨_,h1,S1.out⟩,h2⟩
 ·have he:(v==1)=I:=by simpa using h1
  have hx:Hid (zaR v u k=zb3 u):=by show _=_;unfold zaR;rw [if_neg h1]
  have hy:Hid (zaN v u k=za2 u):=by show _=_;unfold zaN;rw [if_neg h1]
  have H1:=zh h1;clear h1;go_enter func191,ntmps191
  go_wp2_with fail
  refine K2.out.mono ?_;rintro e w1 ⟨rfl,h1,h2⟩;go_wp2;go_ret;exact ⟨by rw [hx.out];rfl,⟨_,by rw [hy.out];exact h1,by rw [hy.out];exact S2.out⟩,h2⟩
theorem zaY (s:Su) (w:C):F A 47 #[s.val] w fun e w'=>e=E (N (rgt s))∧D w.heap.size w w':=by
 have hI:Hid (∀ b:Bool,(b=H↔(1≤s.v∧s.v≤2)∧(1≤s.sn∧s.sn≤1000)∧(1≤s.lg∧s.lg≤1000)∧(0≤s.ar∧s.ar≤1)∧(0≤s.hf∧s.hf≤1)∧(0≤s.gl∧s.gl≤2)∧(0≤s.sp∧s.sp≤9)∧(s.gl≠0∨s.sp=0))→b=rgt s):=fun b h=>by
  rw [Bool.eq_iff_iff,zbj];exact h
 have HB:Hid (D w.heap.size w (w.alloc (l s.c 99))):=zba;unfold Su.val Su.c at *;go_enter func47,ntmps47;go_wp2
 all_goals
  go_ret;refine ⟨congrArg (fun b=>E (Value.bool b)) (hI.out _ ?_),zba⟩;simp only [zuD,ztZ,decide_eq_true_eq,beq_iff_eq,Bool.false_eq_true,true_iff,false_iff];omega
theorem zeu (s:Su) (w:C):F A 48 #[s.val] w fun e w'=>e=E (d f (sec s))∧D w.heap.size w w':=by
 have hc:(w.alloc (l s.c 99)).heap[w.heap.size]?=j (l s.c 99 (0,0)):=ztJ w _;have hb:D w.heap.size w (w.alloc (l s.c 99)):=zba;obtain ⟨W,hW⟩:∃ W,W=w.alloc (l s.c 99):=⟨_,rfl⟩;rw [←hW] at hb hc;have HK:=zh (fun (W:C)=>zaY s W);have HI:=zh (zbj s);have HS:Hid (sec s=if rgt s then 4+2*(s.sn+s.lg) else 0):=rfl;obtain ⟨r,hr⟩:∃ r,r=rgt s:=⟨_,rfl⟩;rw [←hr] at HK HS HI;have HC:=zh hc;have HW:=zh hW;have HB:=zh hb;clear hr hb hW hc;unfold Su.val Su.c at *;go_enter func48,ntmps48
 go_wp2_with fail
 rw [←HW.out];refine (HK.out _).mono ?_;rintro e w1 ⟨rfl,b1⟩;have HB1:=zh (HB.out.trans (b1.mono HB.out.size))
 cases r with
 | false =>
   have hs:Hid (sec s=0):=HS.out;go_wp2;go_ret;exact ⟨by rw [hs.out];rfl,HB1.out⟩
 | true =>
   have hs:Hid (sec s=4+2*(s.sn+s.lg)):=HS.out;obtain ⟨_,h2,h3,_⟩:=HI.out.1 rfl;have hc1:w1.heap[w.heap.size]?=j (l s.c 99 (0,0)):=(b1.block _ (zgx HC.out)).trans HC.out;obtain ⟨c0,c1,c2,c3,c4,c5,c6⟩:=zbG hc1;clear HC HW HB b1 hc1;go_wp2;go_ret;exact ⟨by rw [hs.out];rfl,HB1.out⟩
def sF (s:Su) (i:Nat):Nat:=([s.sn.toNat,s.lg.toNat,s.ar.toNat,s.hf.toNat,s.gl.toNat,s.sp.toNat]:List Nat).getD i 0
def px (s:Su):Nat→ByteArray
 | 0=>fxB s.v.toNat 1
 | i+1=>px s i++num s.v (sF s i) (if i<2 then 2 else 1)
theorem zse (s:Su):px s 6=zbn s:=rfl
theorem zsf {s:Su} (h:rgt s=H) (i:Nat):sF s i<65536:=by
 obtain ⟨h1,h2,h3,h4,h5,h6,h7,_⟩:=(zbj _).1 h;unfold sF
 match i with
 | 0=>simp;omega
 | 1=>simp;omega
 | 2=>simp;omega
 | 3=>simp;omega
 | 4=>simp;omega
 | 5=>simp;omega
 | k+6=>simp
theorem zlW {s:Su} (h:rgt s=H):∀ i,(px s i).size≤1+10*i
 | 0=>by
   have:=zac s.v.toNat 1 (by omega)
   show (fxB s.v.toNat 1).size≤_;have e:(fxB s.v.toNat 1).size=1:=this;omega
 | i+1=>by
   have h1:=zlW h i;have h2:=zad s.v (sF s i) (if i<2 then 2 else 1) (by split<;>omega) (by have:=zsf h i;omega);unfold px;rw [ztS];omega
structure Qs (w:C) (s:Su) (g:Nat) (W:C):Prop where
 be:D w.heap.size w W
 bx:W.heap[w.heap.size]?=j (l s.c 99 (0,0))
 rw:W.heap[g]?=j (l #[d f s.sn,d f s.lg,d f s.ar,d f s.hf,d f s.gl,d f s.sp] 3 (0,0))
theorem Qs.below {s:Su} (h:Qs w s g W) (hb:D W.heap.size W W'):Qs w s g W' :=
 ⟨h.be.trans (hb.mono h.be.size),(hb.block _ (zgx h.bx)).trans h.bx,(hb.block _ (zgx h.rw)).trans h.rw⟩
theorem zsg {s:Su} (hr:rgt s=H) (h:Qs w s g W) (k:Nat) (hk:k<6):W.cell? ⟨g,k,q⟩=j (d f ((sF s k:Nat):Int)):=by
 obtain ⟨h1,h2,h3,h4,h5,h6,h7,_⟩:=(zbj _).1 hr;have c:=fun i=>zcr W g i _ 3 (0,0) h.rw;have e:∀ x:Int,0≤x→((x.toNat:Nat):Int)=x:=fun x hx=>by omega
 match k,hk with
 | 0,_=>rw [c 0];show j (d f s.sn)=j (d f ((s.sn.toNat:Nat):Int));rw [e _ (by omega)]
 | 1,_=>rw [c 1];show j (d f s.lg)=j (d f ((s.lg.toNat:Nat):Int));rw [e _ (by omega)]
 | 2,_=>rw [c 2];show j (d f s.ar)=j (d f ((s.ar.toNat:Nat):Int));rw [e _ (by omega)]
 | 3,_=>rw [c 3];show j (d f s.hf)=j (d f ((s.hf.toNat:Nat):Int));rw [e _ (by omega)]
 | 4,_=>rw [c 4];show j (d f s.gl)=j (d f ((s.gl.toNat:Nat):Int));rw [e _ (by omega)]
 | 5,_=>rw [c 5];show j (d f s.sp)=j (d f ((s.sp.toNat:Nat):Int));rw [e _ (by omega)]
theorem zgP (s:Su) (w:C) (h:rgt s=H):F A 120 #[s.val] w fun e w'=>e=E (M #[G (zbn s),N H])∧D w.heap.size w w':=by
 have hc:(w.alloc (l s.c 99)).heap[w.heap.size]?=j (l s.c 99 (0,0)):=ztJ w _;have hb:D w.heap.size w (w.alloc (l s.c 99)):=zba;obtain ⟨W,hW⟩:∃ W,W=w.alloc (l s.c 99):=⟨_,rfl⟩;rw [←hW] at hb hc;have HK:=zh (fun (W:C)=>zaY s W);rw [h] at HK;obtain ⟨h1,h2,h3,h4,h5,h6,h7,_⟩:=(zbj _).1 h;obtain ⟨v,hv,hv2⟩:∃ v:Nat,s.v=v∧v≤2:=⟨s.v.toNat,by omega,by omega⟩;have HF:=zh (fun (W:C)=>zaO v 1 W (by omega));have hu:B.wrap (v:Int)=v:=by rw [zt3];omega
 have HV:=zh hv;have HC:=zh hc;have HW:=zh hW;have HB:=zh hb;have HH:=zh h;clear hb hW hc h h1 h2 h3 h4 h5 h6 h7;unfold Su.val Su.c at *;rw [HV.out] at HW HK HC ⊢;go_enter func120,ntmps120
 go_wp2_with fail
 rw [←HW.out];refine (HK.out _).mono ?_;rintro e w1 ⟨rfl,b1⟩;have HB1:=zh (HB.out.trans (b1.mono HB.out.size))
 have hc1:w1.heap[w.heap.size]?=j (l s.c 99 (0,0)):=by
  unfold Su.c;rw [HV.out];exact (b1.block _ (zgx HC.out)).trans HC.out
 obtain ⟨c0,c1,c2,c3,c4,c5,c6⟩:=zbG hc1;rw [HV.out] at c0;have HC1:=zh hc1;clear HC HW HB HK b1 hc1
 go_wp2_with fail
 refine (HF.out _).mono ?_;rintro e w2 ⟨rfl,b2⟩;have HB2:=zh (HB1.out.trans (b2.mono HB1.out.size));have HC2:=zh ((b2.block _ (zgx HC1.out)).trans HC1.out);clear c0 c1 c2 c3 c4 c5 c6 HC1 b2 HF hu;obtain ⟨c0,c1,c2,c3,c4,c5,c6⟩:=zbG HC2.out;rw [HV.out] at c0
 go_wp2_with fail
 obtain ⟨g,hg⟩:∃ g,g=w2.heap.size:=⟨_,rfl⟩;obtain ⟨W3,hW3⟩:∃ W3,W3=w2.alloc (l #[d f s.sn,d f s.lg,d f s.ar,d f s.hf,d f s.gl,d f s.sp] 3):=⟨_,rfl⟩;have Q3:Hid (Qs w s g W3):=⟨by rw [hW3];exact HB2.out.alloc HB2.out.size _,by rw [hW3];exact (ztQ _ _ _ (zgx HC2.out)).trans HC2.out,by rw [hW3,hg];exact ztJ w2 _⟩;have HP0:Hid (fxB v 1=px s 0):=by show fxB (v:Nat) 1=fxB s.v.toNat 1;rw [HV.out,ztV]
 have HSF:Hid (∀ k,sF s k<65536):=fun k=>zsf HH.out k;have HPX:Hid (∀ k,(px s k).size≤1+10*k):=fun k=>zlW HH.out k;have HNZ:Hid (∀ (k:Nat) (kk:Nat),kk≤8→(num v (sF s k) kk).size≤10):=fun k kk h=>zad _ _ _ h (by have:=HSF.out k;omega);have HST:Hid (∀ k:Nat,px s (k+1)=px s k++num v (sF s k) (if k<2 then 2 else 1)):=fun k=>by show px s k++num s.v (sF s k) (if k<2 then 2 else 1)=_;rw [HV.out]
 have HNN:Hid (∀ k:Nat,k<6→∀ W,Qs w s g W→W.cell? ⟨g,k,q⟩=j (d f ((sF s k:Nat):Int))):=fun k hk W hQ=>zsg HH.out hQ k hk;have HB0:Hid (∀ W,Qs w s g W→W.cell? ⟨w.heap.size,0,q⟩=j (d f v)):=fun W hQ=>by rw [(zbG hQ.bx).1,HV.out]
 clear c0 c1 c2 c3 c4 c5 c6 HB2 HC2 hv HB1;rw [←hW3,←hg,HP0.out];clear hW3 hg HP0
 go_loopw [5,7,8] (fun out i _ wr=>∃ k:Nat,k≤6∧out=G (px s k)∧i=d f k∧Qs w s g wr) (fun _ i _ _=>6-(RowKit.intOf i).toNat)
 case atStart=>exact ⟨0,by omega,rfl,rfl,Q3.out⟩
 case round =>
  obtain ⟨k,hk6,rfl,rfl,Q⟩:=hrel;clear Q3
  by_cases hk:k<6
  ·have hki:(k:Int)<6:=by omega
   have hsl:=HSF.out k;obtain ⟨n,hn⟩:∃ n,n=sF s k:=⟨_,rfl⟩;have hnn:=HNN.out k hk;rw [←hn] at hnn hsl;have hu:B.wrap (n:Int)=n:=by rw [zt3];omega
   obtain ⟨kk,hkk,hkk2⟩:∃ kk:Nat,kk=(if k<2 then 2 else 1)∧kk≤8:=⟨_,rfl,by split<;>omega⟩;have HSTk:Hid (px s (k+1)=px s k++num v n kk):=by show _=_;rw [HST.out,hn,hkk]
   obtain ⟨ki,hki0⟩:∃ ki:Int,ki=(kk:Nat):=⟨_,rfl⟩
   have K:Hid (∀ W,Qs w s g W→F A 176 #[d f v,d B n,d f ki] W fun e w'=>e=E (G (num v n kk))∧Qs w s g w'):=fun W hQ=>by
    rw [hki0];exact (zbp v n kk W (by omega)).mono fun e w' ⟨h1,h2⟩=>⟨h1,hQ.below h2⟩
   have hz1:=HPX.out k;have hz2:=HNZ.out k kk hkk2;rw [←hn] at hz2;obtain ⟨p,hp⟩:∃ p,p=px s k:=⟨_,rfl⟩;obtain ⟨nb,hnb⟩:∃ nb,nb=num v n kk:=⟨_,rfl⟩;rw [←hp] at HSTk hz1 ⊢;rw [←hnb] at HSTk hz2 K;have hsum:¬ (9223372036854775807<p.size+nb.size):=by omega
   have hsum2:(p.size:Int)+nb.size≤9223372036854775807:=by omega
   have x0:=hnn wr Q;have y0:=HB0.out wr Q;have Qd:Qs w s g wr.drew:=Q.below (P _ wr).drew;have HNk:Hid (∀ W,Qs w s g W→W.cell? ⟨w.heap.size,0,q⟩=j (d f v)∧W.cell? ⟨g,k,q⟩=j (d f (n:Nat))):=fun W hQ=>⟨HB0.out W hQ,hnn W hQ⟩;have HKK:Hid (ki=if k<2 then 2 else 1):=by show _=_;rw [hki0,hkk];split<;>rfl
   clear hn hki0 hkk hp hnb hz1 hz2 hnn hsl hkk2
   by_cases h2:k<2
   ·have h2i:(k:Int)<2:=by omega
    obtain rfl:ki=2:=by have:=HKK.out;rw [if_pos h2] at this;exact this
    go_upto_region 12 with fail
    go_region_held3 (fun w'=>w'.cell? ⟨w.heap.size,0,q⟩=j (d f v)∧w'.cell? ⟨g,k,q⟩=j (d f (n:Nat))) (first|exact ⟨y0,x0⟩|exact (HNk.out _ (by assumption))) (first
     | (go_at_call 176;(with_reducible refine (K.out _ Qd).mono ?_);rintro e v5 ⟨rfl,Q5⟩))
    clear y0 x0 K Q Qd
    go_wp2_with fail
    go_roundw
    case rel=>exact ⟨k+1,by omega,by rw [HSTk.out],by go_num,Q5⟩
    case measure=>simp [RowKit.intOf];omega
   ·have h2i:¬ (k:Int)<2:=by omega
    obtain rfl:ki=1:=by have:=HKK.out;rw [if_neg h2] at this;exact this
    go_upto_region 12 with fail
    go_region_held3 (fun w'=>w'.cell? ⟨w.heap.size,0,q⟩=j (d f v)∧w'.cell? ⟨g,k,q⟩=j (d f (n:Nat))) (first|exact ⟨y0,x0⟩|exact (HNk.out _ (by assumption))) (first
     | (go_at_call 176;(with_reducible refine (K.out _ Qd).mono ?_);rintro e v5 ⟨rfl,Q5⟩))
    clear y0 x0 K Q Qd
    go_wp2_with fail
    go_roundw
    case rel=>exact ⟨k+1,by omega,by rw [HSTk.out],by go_num,Q5⟩
    case measure=>simp [RowKit.intOf];omega
  ·obtain rfl:k=6:=by omega
   have HE:=zh Q.be;have H6:Hid (px s 6=zbn s):=zse s;clear Q;go_wp2;go_ret2;exact ⟨by rw [←H6.out];rfl,HE.out⟩
theorem zhO (s:Su) (w:C) (h:rgt s=I):F A 120 #[s.val] w fun e w'=>e=E (M #[G ⟨#[]⟩,N I])∧D w.heap.size w w':=by
 have hb:D w.heap.size w (w.alloc (l s.c 99)):=zba;obtain ⟨W,hW⟩:∃ W,W=w.alloc (l s.c 99):=⟨_,rfl⟩;rw [←hW] at hb;have HK:=zh (fun (W:C)=>zaY s W);rw [h] at HK;have HW:=zh hW;have HB:=zh hb;clear hb hW h;unfold Su.val Su.c at *;go_enter func120,ntmps120
 go_wp2_with fail
 rw [←HW.out];refine (HK.out _).mono ?_;rintro e w1 ⟨rfl,b1⟩;have HB1:=zh (HB.out.trans (b1.mono HB.out.size));go_wp2;go_ret2;exact ⟨rfl,HB1.out⟩
theorem zdU (s:Su) (w:C):F A 120 #[s.val] w fun e w'=>e=E (M #[G (zis s),N (rgt s)])∧D w.heap.size w w':=by
 unfold zis
 cases h:rgt s with
 | false=>exact zhO s w h
 | true=>rw [if_pos rfl];exact zgP s w h
structure Ph2 (w:C) (h:Hd) (W:C):Prop where
 be:D w.heap.size w W
 bx:W.heap[w.heap.size]?=j (l h.c 110 (0,0))
theorem Ph2.below {s:Hd} (h:Ph2 w s W) (hb:D W.heap.size W W'):Ph2 w s W' :=
 ⟨h.be.trans (hb.mono h.be.size),(hb.block _ (zgx h.bx)).trans h.bx⟩
theorem zgQ (tm vo cm:Nat) (w:C) (ht:tm<18446744073709551616) (hc:cm<18446744073709551616) (h7:vo≤7) :
 F A 118 #[d f 1,Hd.val ⟨tm,vo,cm⟩] w fun e w'=>e=E (M #[G (hB 1 ⟨tm,vo,cm⟩),N H])∧D w.heap.size w w':=by
 have Q0:Hid (Ph2 w ⟨tm,vo,cm⟩ (w.alloc (l (Hd.c ⟨tm,vo,cm⟩) 110))):=⟨zba,ztJ w _⟩;obtain ⟨W,hW⟩:∃ W,W=w.alloc (l (Hd.c ⟨tm,vo,cm⟩) 110):=⟨_,rfl⟩;rw [←hW] at Q0;have Qd:Ph2 w ⟨tm,vo,cm⟩ W.drew:=Q0.out.below (P _ W).drew;obtain ⟨s0,hs0⟩:∃ s0,s0=fxB 17 1:=⟨_,rfl⟩;obtain ⟨s1,hs1⟩:∃ s1,s1=num 1 tm 8:=⟨_,rfl⟩;obtain ⟨s2,hs2⟩:∃ s2,s2=num 1 vo 1:=⟨_,rfl⟩;obtain ⟨s3,hs3⟩:∃ s3,s3=num 1 cm 8:=⟨_,rfl⟩
 have HE:Hid (s0++s1++s2++s3=hB 1 ⟨tm,vo,cm⟩):=by
  show _=_;rw [hs0,hs1,hs2,hs3];unfold hB;rw [show ((16:Int)+1).toNat=17 by decide];simp only [ztV]
 have z0:s0.size=1:=by rw [hs0];exact zac 17 1 (by omega)
 have z1:s1.size≤10:=by rw [hs1];exact zad _ _ _ (by omega) ht
 have z2:s2.size≤10:=by rw [hs2];exact zad _ _ _ (by omega) (by omega)
 have z3:s3.size≤10:=by rw [hs3];exact zad _ _ _ (by omega) hc
 have K0:Hid (∀ W,Ph2 w ⟨tm,vo,cm⟩ W→F A 172 #[d B 17,d f 1] W fun e w'=>e=E (G s0)∧Ph2 w ⟨tm,vo,cm⟩ w'):=fun W hQ=>(zaO 17 1 W (by omega)).mono fun e w' ⟨h1,h2⟩=>⟨by rw [h1,hs0],hQ.below h2⟩;have K1:Hid (∀ W,Ph2 w ⟨tm,vo,cm⟩ W→F A 176 #[d f 1,d B tm,d f 8] W fun e w'=>e=E (G s1)∧Ph2 w ⟨tm,vo,cm⟩ w'):=fun W hQ=>(zbp 1 tm 8 W ht).mono fun e w' ⟨h1,h2⟩=>⟨by rw [h1,hs1],hQ.below h2⟩;have K2:Hid (∀ W,Ph2 w ⟨tm,vo,cm⟩ W→F A 176 #[d f 1,d B vo,d f 1] W fun e w'=>e=E (G s2)∧Ph2 w ⟨tm,vo,cm⟩ w'):=fun W hQ=>(zbp 1 vo 1 W (by omega)).mono fun e w' ⟨h1,h2⟩=>⟨by rw [h1,hs2],hQ.below h2⟩;have K3:Hid (∀ W,Ph2 w ⟨tm,vo,cm⟩ W→F A 176 #[d f 1,d B cm,d f 8] W fun e w'=>e=E (G s3)∧Ph2 w ⟨tm,vo,cm⟩ w'):=fun W hQ=>(zbp 1 cm 8 W hc).mono fun e w' ⟨h1,h2⟩=>⟨by rw [h1,hs3],hQ.below h2⟩;have hu:B.wrap (vo:Int)=vo:=by rw [zt3];omega
 have q1:(s0.size:Int)+s1.size≤9223372036854775807:=by omega
 have q2:(s0.size:Int)+s1.size+s2.size≤9223372036854775807:=by omega
 have q3:(s0.size:Int)+s1.size+s2.size+s3.size≤9223372036854775807:=by omega
 have p1:¬ 9223372036854775807<s0.size+s1.size:=by omega
 have p2:¬ 9223372036854775807<s0.size+s1.size+s2.size:=by omega
 have p3:¬ 9223372036854775807<s0.size+s1.size+s2.size+s3.size:=by omega
 obtain ⟨c0,c1,c2⟩:=zcC Q0.out.bx;dsimp only at c0 c1 c2;have HN:Hid (∀ W,Ph2 w ⟨tm,vo,cm⟩ W→W.cell? ⟨w.heap.size,0,q⟩=j (d B (tm:Nat))∧W.cell? ⟨w.heap.size,1,q⟩=j (d f (vo:Nat))∧W.cell? ⟨w.heap.size,2,q⟩=j (d B (cm:Nat))):=fun W hQ=>zcC hQ.bx;have h70:(vo:Int)≤7:=by omega
 have hd0:decide ((vo:Int)<0)=I:=ztM (by omega);have hd7:decide ((7:Int)<vo)=I:=ztM (by omega);have HW:=zh hW;clear hW hs0 hs1 hs2 hs3 z0 z1 z2 z3 ht hc h7;unfold Hd.val Hd.c at *;dsimp only at HW ⊢;go_enter func118,ntmps118
 go_upto_region 3 with fail
 rw [←HW.out]
 go_region_held3 (fun w'=>w'.cell? ⟨w.heap.size,0,q⟩=j (d B (tm:Nat))∧w'.cell? ⟨w.heap.size,1,q⟩=j (d f (vo:Nat))∧w'.cell? ⟨w.heap.size,2,q⟩=j (d B (cm:Nat))) (first|exact ⟨c0,c1,c2⟩|exact (HN.out _ (by assumption))) (first
  | (go_at_call 172;(refine (K0.out _ Qd).mono ?_);rintro e v1 ⟨rfl,Q1⟩)
  | (go_at_call 176;(with_reducible refine (K1.out _ Q1).mono ?_);rintro e v2 ⟨rfl,Q2⟩)
  | (go_at_call 176;(with_reducible refine (K2.out _ Q2).mono ?_);rintro e v3 ⟨rfl,Q3⟩)
  | (go_at_call 176;(with_reducible refine (K3.out _ Q3).mono ?_);rintro e v4 ⟨rfl,Q4⟩))
 go_wp2_with fail
 go_ret2;exact ⟨by rw [←HE.out];rfl,Q4.be⟩
theorem zgR (tm vo cm:Nat) (w:C) (ht:tm<18446744073709551616) (hc:cm<18446744073709551616) (h7:vo≤7) :
 F A 118 #[d f 2,Hd.val ⟨tm,vo,cm⟩] w fun e w'=>e=E (M #[G (hB 2 ⟨tm,vo,cm⟩),N H])∧D w.heap.size w w':=by
 have Q0:Hid (Ph2 w ⟨tm,vo,cm⟩ (w.alloc (l (Hd.c ⟨tm,vo,cm⟩) 110))):=⟨zba,ztJ w _⟩;obtain ⟨W,hW⟩:∃ W,W=w.alloc (l (Hd.c ⟨tm,vo,cm⟩) 110):=⟨_,rfl⟩;rw [←hW] at Q0;have Qd:Ph2 w ⟨tm,vo,cm⟩ W.drew:=Q0.out.below (P _ W).drew;obtain ⟨s0,hs0⟩:∃ s0,s0=fxB 18 1:=⟨_,rfl⟩;obtain ⟨s1,hs1⟩:∃ s1,s1=num 2 tm 8:=⟨_,rfl⟩;obtain ⟨s2,hs2⟩:∃ s2,s2=num 2 vo 1:=⟨_,rfl⟩;obtain ⟨s3,hs3⟩:∃ s3,s3=num 2 cm 8:=⟨_,rfl⟩
 have HE:Hid (s0++s1++s2++s3=hB 2 ⟨tm,vo,cm⟩):=by
  show _=_;rw [hs0,hs1,hs2,hs3];unfold hB;rw [show ((16:Int)+2).toNat=18 by decide];simp only [ztV]
 have z0:s0.size=1:=by rw [hs0];exact zac 18 1 (by omega)
 have z1:s1.size≤10:=by rw [hs1];exact zad _ _ _ (by omega) ht
 have z2:s2.size≤10:=by rw [hs2];exact zad _ _ _ (by omega) (by omega)
 have z3:s3.size≤10:=by rw [hs3];exact zad _ _ _ (by omega) hc
 have K0:Hid (∀ W,Ph2 w ⟨tm,vo,cm⟩ W→F A 172 #[d B 18,d f 1] W fun e w'=>e=E (G s0)∧Ph2 w ⟨tm,vo,cm⟩ w'):=fun W hQ=>(zaO 18 1 W (by omega)).mono fun e w' ⟨h1,h2⟩=>⟨by rw [h1,hs0],hQ.below h2⟩;have K1:Hid (∀ W,Ph2 w ⟨tm,vo,cm⟩ W→F A 176 #[d f 2,d B tm,d f 8] W fun e w'=>e=E (G s1)∧Ph2 w ⟨tm,vo,cm⟩ w'):=fun W hQ=>(zbp 2 tm 8 W ht).mono fun e w' ⟨h1,h2⟩=>⟨by rw [h1,hs1],hQ.below h2⟩;have K2:Hid (∀ W,Ph2 w ⟨tm,vo,cm⟩ W→F A 176 #[d f 2,d B vo,d f 1] W fun e w'=>e=E (G s2)∧Ph2 w ⟨tm,vo,cm⟩ w'):=fun W hQ=>(zbp 2 vo 1 W (by omega)).mono fun e w' ⟨h1,h2⟩=>⟨by rw [h1,hs2],hQ.below h2⟩;have K3:Hid (∀ W,Ph2 w ⟨tm,vo,cm⟩ W→F A 176 #[d f 2,d B cm,d f 8] W fun e w'=>e=E (G s3)∧Ph2 w ⟨tm,vo,cm⟩ w'):=fun W hQ=>(zbp 2 cm 8 W hc).mono fun e w' ⟨h1,h2⟩=>⟨by rw [h1,hs3],hQ.below h2⟩;have hu:B.wrap (vo:Int)=vo:=by rw [zt3];omega
 have q1:(s0.size:Int)+s1.size≤9223372036854775807:=by omega
 have q2:(s0.size:Int)+s1.size+s2.size≤9223372036854775807:=by omega
 have q3:(s0.size:Int)+s1.size+s2.size+s3.size≤9223372036854775807:=by omega
 have p1:¬ 9223372036854775807<s0.size+s1.size:=by omega
 have p2:¬ 9223372036854775807<s0.size+s1.size+s2.size:=by omega
 have p3:¬ 9223372036854775807<s0.size+s1.size+s2.size+s3.size:=by omega
 obtain ⟨c0,c1,c2⟩:=zcC Q0.out.bx;dsimp only at c0 c1 c2;have HN:Hid (∀ W,Ph2 w ⟨tm,vo,cm⟩ W→W.cell? ⟨w.heap.size,0,q⟩=j (d B (tm:Nat))∧W.cell? ⟨w.heap.size,1,q⟩=j (d f (vo:Nat))∧W.cell? ⟨w.heap.size,2,q⟩=j (d B (cm:Nat))):=fun W hQ=>zcC hQ.bx;have h70:(vo:Int)≤7:=by omega
 have hd0:decide ((vo:Int)<0)=I:=ztM (by omega);have hd7:decide ((7:Int)<vo)=I:=ztM (by omega);have HW:=zh hW;clear hW hs0 hs1 hs2 hs3 z0 z1 z2 z3 ht hc h7;unfold Hd.val Hd.c at *;dsimp only at HW ⊢;go_enter func118,ntmps118
 go_upto_region 3 with fail
 rw [←HW.out]
 go_region_held3 (fun w'=>w'.cell? ⟨w.heap.size,0,q⟩=j (d B (tm:Nat))∧w'.cell? ⟨w.heap.size,1,q⟩=j (d f (vo:Nat))∧w'.cell? ⟨w.heap.size,2,q⟩=j (d B (cm:Nat))) (first|exact ⟨c0,c1,c2⟩|exact (HN.out _ (by assumption))) (first
  | (go_at_call 172;(refine (K0.out _ Qd).mono ?_);rintro e v1 ⟨rfl,Q1⟩)
  | (go_at_call 176;(with_reducible refine (K1.out _ Q1).mono ?_);rintro e v2 ⟨rfl,Q2⟩)
  | (go_at_call 176;(with_reducible refine (K2.out _ Q2).mono ?_);rintro e v3 ⟨rfl,Q3⟩)
  | (go_at_call 176;(with_reducible refine (K3.out _ Q3).mono ?_);rintro e v4 ⟨rfl,Q4⟩))
 go_wp2_with fail
 go_ret2;exact ⟨by rw [←HE.out];rfl,Q4.be⟩
theorem ziK (v:Int) (h:Hd) (w:C) (hh:hO v h=I):F A 118 #[d f v,h.val] w fun e w'=>e=E (M #[G ⟨#[]⟩,N I])∧D w.heap.size w w':=by
 have HI:Hid (¬ ((v=1∨v=2)∧0≤h.vo∧h.vo≤7)):=fun h1=>by rw [(zdm _ _).2 h1] at hh;cases hh
 clear hh;unfold Hd.val Hd.c
 by_cases h1:v=1∨v=2
 ·have hvo:h.vo<0∨7<h.vo:=by have:=HI.out;omega
  rcases h1 with rfl|rfl
  all_goals
   rcases hvo with hlt|hgt
   ·have hd0:decide (h.vo<0)=H:=ztN hlt;go_enter func118,ntmps118;go_wp2;go_ret2;exact ⟨rfl,zba⟩
   ·have hd0:decide (h.vo<0)=I:=ztM (by omega);have hd7:decide (7<h.vo)=H:=ztN hgt;go_enter func118,ntmps118;go_wp2;go_ret2;exact ⟨rfl,zba⟩
 ·have e1:(v != 1)=H:=by simp;omega
  have e2:(v != 2)=H:=by simp;omega
  clear h1;go_enter func118,ntmps118;go_wp2;go_ret2;exact ⟨rfl,zba⟩
theorem zev (v:Int) (h:Hd) (w:C) (ho:h.Ok):F A 118 #[d f v,h.val] w fun e w'=>e=E (M #[G (hS v h),N (hO v h)])∧D w.heap.size w w':=by
 unfold hS
 cases hh:hO v h with
 | false=>rw [if_neg (by decide)];exact ziK v h w hh
 | true =>
   rw [if_pos rfl];obtain ⟨tm,vo,cm⟩:=h;obtain ⟨h1,h2,h3⟩:=(zdm _ _).1 hh;dsimp only at h2 h3;obtain ⟨x,rfl⟩:=ztW h2;rcases h1 with rfl|rfl
   ·exact zgQ tm x cm w ho.t ho.c (by omega)
   ·exact zgR tm x cm w ho.t ho.c (by omega)
theorem zay (hgd:op.guard=q) (x y:Operand) (ho:op.op=.store 99 x y)
 (w:C) (z:Nat) (s t:Su) (hx:a.eval x=L (j ⟨z,0,q⟩)) (hy:a.eval y=O s.c) (hz:w.heap[z]?=j (l t.c 99 (0,0)))
 (h:wpList A ops Q rest (a.put op.dst undef) (w.setRow z s.c)):wpList A ops Q (op :: rest) a w :=
 wpList_store_row hgd 99 x y ho z _ hx hy 99 _ hz ru7 rfl (by simp [Su.c,Value.oneCell']) h
theorem zdn (hgd:op.guard=q) (x:Operand) (ho:op.op=.load 99 x)
 (w:C) (z:Nat) (s:Su) (hx:a.eval x=L (j ⟨z,0,q⟩)) (hz:w.heap[z]?=j (l s.c 99 (0,0)))
 (h:wpList A ops Q rest (a.put op.dst (O s.c)) w):wpList A ops Q (op :: rest) a w :=
 wpList_load_row hgd 99 x ho z hx 99 _ (0,0) _ hz underlying99 rfl ru7 h
theorem zaz (hgd:op.guard=q) (x y:Operand) (ho:op.op=.store 110 x y)
 (w:C) (z:Nat) (s t:Hd) (hx:a.eval x=L (j ⟨z,0,q⟩)) (hy:a.eval y=O s.c) (hz:w.heap[z]?=j (l t.c 110 (0,0)))
 (h:wpList A ops Q rest (a.put op.dst undef) (w.setRow z s.c)):wpList A ops Q (op :: rest) a w :=
 wpList_store_row hgd 110 x y ho z _ hx hy 110 _ hz rd3 rfl (by simp [Hd.c,Value.oneCell']) h
theorem zfS (hgd:op.guard=q) (x:Operand) (ho:op.op=.load 110 x)
 (w:C) (z:Nat) (s:Hd) (hx:a.eval x=L (j ⟨z,0,q⟩)) (hz:w.heap[z]?=j (l s.c 110 (0,0)))
 (h:wpList A ops Q rest (a.put op.dst (O s.c)) w):wpList A ops Q (op :: rest) a w :=
 wpList_load_row hgd 110 x ho z hx 110 _ (0,0) _ hz underlying110 rfl rd3 h
theorem zqS (tmps:Array Value) (w:C) (p:Nat) (s:Su) (hp:tmps.getD 2 undef=L (j ⟨p,0,q⟩)) (hg:w.heap[p]?=j (l s.c 99 (0,0))) :
 (results f126 tmps).run A w=.ok (M #[O s.c,tmps.getD 3 undef]) w:=by
 rw [results_cell_tmp results126,hp];simp [asAddr,run_loadVar_row w p 99 99 s.c (0,0) _ hg underlying99 rfl ru7]
theorem zqT (tmps:Array Value) (w:C) (p:Nat) (s:Hd) (hp:tmps.getD 2 undef=L (j ⟨p,0,q⟩)) (hg:w.heap[p]?=j (l s.c 110 (0,0))) :
 (results f127 tmps).run A w=.ok (M #[O s.c,tmps.getD 3 undef,tmps.getD 4 undef]) w:=by
 rw [zci results127,hp];simp [asAddr,run_loadVar_row w p 110 110 s.c (0,0) _ hg underlying110 rfl rd3]
structure Gk (w:C) (o:Obj) (R:Nat) (u:ByteArray) (W:C):Prop where
 be:D w.heap.size w W
 r0:W.heap[w.heap.size]?=j o
 rd:∃ bad,Rd 261 R u bad W∧Sane u bad
 l1:w.heap.size<R
 sz:u.size≤281474976710656
theorem Gk.grown {v:ByteArray} (k:Gk w o R u W) (hr:∃ bad,Rd 261 R v bad W'∧Sane v bad) (hg:W.grownBy W' (j R)) (hv:v.size≤281474976710656):Gk w o R v W':=by
 have l1:=k.l1;have lt:=(zgx k.r0);exact ⟨zaa k.be hg k.be.size (by omega),(hg.block _ lt (by simp;omega)).trans k.r0,hr,l1,hv⟩
theorem Gk.below (k:Gk w o R u W) (hb:D W.heap.size W W'):Gk w o R u W' :=
 k.grown (k.rd.elim fun b hr=>⟨b,hr.1.below hb hr.1.lt,hr.2⟩) (zbb hb _) k.sz
theorem ziL (v:Int) (k:Nat) (W:C) (g:Gk w o R u W) :
 F A 191 #[L (j ⟨R,0,q⟩),d f v,d f k] W fun e w'=>e=E (d B (zaR v u k))∧Gk w o R (zaN v u k) w' :=
 (zoA v R u k W g.rd g.sz).mono fun e w' ⟨h1,h2,h3⟩=>⟨h1,g.grown h2 h3 (zcB g.sz)⟩
theorem zdV (v:Int) (W:C) (g:Gk w o R u W) :
 F A 191 #[L (j ⟨R,0,q⟩),d f v,d f 1] W fun e w'=>e=E (d B (zaR v u 1))∧Gk w o R (zaN v u 1) w':=ziL v 1 W g
theorem zjv (v:Int) (W:C) (g:Gk w o R u W) :
 F A 191 #[L (j ⟨R,0,q⟩),d f v,d f 2] W fun e w'=>e=E (d B (zaR v u 2))∧Gk w o R (zaN v u 2) w':=ziL v 2 W g
theorem zjw (v:Int) (W:C) (g:Gk w o R u W) :
 F A 191 #[L (j ⟨R,0,q⟩),d f v,d f 8] W fun e w'=>e=E (d B (zaR v u 8))∧Gk w o R (zaN v u 8) w':=ziL v 8 W g
theorem zgS (b:ByteArray) (w:C) (hb:b.size≤281474976710656):F A 126 #[G b] w fun e w'=>e=E (M #[(gS b).val,N (gO b)])∧D w.heap.size w w':=by
 obtain ⟨W0,hW0⟩:∃ W0,W0=w.alloc (l su0.c 99):=⟨_,rfl⟩;have b0:D w.heap.size w W0:=by rw [hW0];exact zba
 have k0:W0.heap[w.heap.size]?=j (l su0.c 99 (0,0)):=by rw [hW0];exact ztJ w _
 have s0:W0.heap.size=w.heap.size+1:=by rw [hW0];simp
 have KN:=zh (zcE b W0);have HB0:=zh b0;have HK0:=zh k0;have HS0:=zh s0;have HBZ:=zh hb;obtain ⟨n,hn⟩:∃ n,n=za1 b 1:=⟨_,rfl⟩;obtain ⟨u,hu⟩:∃ u,u=zan b 1:=⟨_,rfl⟩;have hn1:=zbZ b;rw [←hn] at hn1;have hwr:f.wrap (n:Int)=(n:Int):=IntWalk.i64_in _ (by omega);have hrs:rs2 b=zs0 n u:=by unfold rs2 rv;rw [←hn,←hu]
 obtain ⟨m1,hm1⟩:∃ m,m=zaR n u 2 % 9999:=⟨_,rfl⟩;have hq1:((zaR n u 2:Nat):Int) % 9999=(m1:Int):=by rw [hm1];omega
 have hl1:(m1:Int)≤9999:=by rw [hm1];omega
 obtain ⟨m2,hm2⟩:∃ m,m=zaR n (zaN n u 2) 2 % 9999:=⟨_,rfl⟩;have hq2:((zaR n (zaN n u 2) 2:Nat):Int) % 9999=(m2:Int):=by rw [hm2];omega
 have hl2:(m2:Int)≤9999:=by rw [hm2];omega
 obtain ⟨m3,hm3⟩:∃ m,m=zaR n (zaN n (zaN n u 2) 2) 1 % 99:=⟨_,rfl⟩;have hq3:((zaR n (zaN n (zaN n u 2) 2) 1:Nat):Int) % 99=(m3:Int):=by rw [hm3];omega
 have hl3:(m3:Int)≤9999:=by rw [hm3];omega
 obtain ⟨m4,hm4⟩:∃ m,m=zaR n (zaN n (zaN n (zaN n u 2) 2) 1) 1 % 99:=⟨_,rfl⟩;have hq4:((zaR n (zaN n (zaN n (zaN n u 2) 2) 1) 1:Nat):Int) % 99=(m4:Int):=by rw [hm4];omega
 have hl4:(m4:Int)≤9999:=by rw [hm4];omega
 obtain ⟨m5,hm5⟩:∃ m,m=zaR n (zaN n (zaN n (zaN n (zaN n u 2) 2) 1) 1) 1 % 99:=⟨_,rfl⟩;have hq5:((zaR n (zaN n (zaN n (zaN n (zaN n u 2) 2) 1) 1) 1:Nat):Int) % 99=(m5:Int):=by rw [hm5];omega
 have hl5:(m5:Int)≤9999:=by rw [hm5];omega
 obtain ⟨m6,hm6⟩:∃ m,m=zaR n (zaN n (zaN n (zaN n (zaN n (zaN n u 2) 2) 1) 1) 1) 1 % 99:=⟨_,rfl⟩;have hq6:((zaR n (zaN n (zaN n (zaN n (zaN n (zaN n u 2) 2) 1) 1) 1) 1:Nat):Int) % 99=(m6:Int):=by rw [hm6];omega
 have hl6:(m6:Int)≤9999:=by rw [hm6];omega
 obtain ⟨T,hT⟩:∃ T:Su,T=⟨n,m1,m2,m3,m4,m5,m6⟩:=⟨_,rfl⟩
 have hrT:rs2 b=T:=by
  rw [hrs,hT];unfold zs0 u5 u4 u3 u2 u1;rw [←hm1,←hm2,←hm3,←hm4,←hm5,←hm6]
 have KP:=zh (fun (W:C)=>zdU T W);obtain ⟨r,hr⟩:∃ r,r=rgt T:=⟨_,rfl⟩;obtain ⟨p,hp⟩:∃ p,p=zis T:=⟨_,rfl⟩;rw [←hr,←hp] at KP;obtain ⟨te,hte⟩:∃ te,te=(p.toList==b.toList):=⟨_,rfl⟩
 have hg2:gO2 b=(r&&te):=by
  unfold gO2;rw [hrT,←hr,hte,hp]
  cases hrr:r with
  | false=>rfl
  | true=>unfold zis;rw [←hr,hrr,if_pos rfl]
 have HG:Hid (gO b=(r&&te)):=by show _=_;rw [←zlO,hg2]
 have HS:Hid (gS b=if (r&&te)=H then T else su0):=by
  show _=_;unfold gS;rw [HG.out]
  cases hx:(r&&te) with
  | false=>rfl
  | true=>rw [if_pos rfl,if_pos rfl,←zsb (by rw [HG.out,hx]),hrT]
 have HTE:=zh hte.symm;have HU:=zh hu;have HN:=zh hn;have HT:Hid (T.c=#[d f n,d f m1,d f m2,d f m3,d f m4,d f m5,d f m6]):=by show _=_;rw [hT];rfl
 have HX:Hid (T.c=_):=HT.out;unfold Su.val at KP;clear b0 k0 s0 hb hn hu hn1 hrs hrT hr hp hte hT HT hg2 hm1 hm2 hm3 hm4 hm5 hm6;unfold rdp at *;have hz0:(w.alloc (l su0.c 99))=w.alloc (l #[d f 0,d f 0,d f 0,d f 0,d f 0,d f 0,d f 0] 99):=rfl;rw [hz0] at hW0;clear hz0;have HW0:=zh hW0;clear hW0;go_enter func126,ntmps126
 go_wp2_with fail
 rw [←HW0.out];refine KN.out.mono ?_;rintro e w1 ⟨rfl,hw1⟩;obtain ⟨R,hR⟩:∃ R,R=W0.heap.size:=⟨_,rfl⟩;have r1:Rd 261 R b I w1:=by rw [hw1,hR];exact Rd.new _ _ _ _
 have b1:D W0.heap.size W0 w1:=by rw [hw1];exact zba
 have G1:Hid (Gk w (l su0.c 99 (0,0)) R b w1):=⟨HB0.out.trans (b1.mono HB0.out.size),(b1.block _ (by have:=HS0.out;omega)).trans HK0.out,⟨_,r1,fun h=>by cases h⟩,by have:=HS0.out;omega,HBZ.out⟩;have HRR:=zh hR;clear hw1 r1 b1 hR;rw [←HRR.out]
 have KF:Hid (F A 190 #[L (j ⟨R,0,q⟩),d f 1] w1 fun e w'=>e=E (d B (za1 b 1))∧Gk w (l su0.c 99 (0,0)) R (zan b 1) w'):=by
  obtain ⟨bad,hr,hs⟩:=G1.out.rd;exact (zaI R b bad 1 w1 hr hs HBZ.out).mono fun e w' ⟨h1,h2,h3⟩=>⟨h1,G1.out.grown ⟨_,h2,sane_fix b bad 1 hs⟩ h3 (ztL (zak b 1) HBZ.out)⟩
 unfold rdp at *
 go_wp2_with fail
 refine KF.out.mono ?_;rintro e w3 ⟨rfl,g3⟩;have G3:=zh g3;clear g3 KF KN G1 HK0 HB0 HS0 HW0 HRR;rw [←HU.out] at G3;rw [←HN.out];have KG:=zh (zjv n _ G3.out)
 go_wp2_with fail
 refine KG.out.mono ?_;rintro e y1 ⟨rfl,g1⟩;have G4:=zh g1;clear KG g1 G3;have KG:=zh (zjv n _ G4.out)
 go_wp2_with fail
 refine KG.out.mono ?_;rintro e y2 ⟨rfl,g2⟩;have G5:=zh g2;clear KG g2 G4;have KG:=zh (zdV n _ G5.out)
 go_wp2_with fail
 refine KG.out.mono ?_;rintro e y3 ⟨rfl,g3⟩;have G6:=zh g3;clear KG g3 G5;have KG:=zh (zdV n _ G6.out)
 go_wp2_with fail
 refine KG.out.mono ?_;rintro e y4 ⟨rfl,g4⟩;have G7:=zh g4;clear KG g4 G6;have KG:=zh (zdV n _ G7.out)
 go_wp2_with fail
 refine KG.out.mono ?_;rintro e y5 ⟨rfl,g5⟩;have G8:=zh g5;clear KG g5 G7;have KG:=zh (zdV n _ G8.out)
 go_wp2_with fail
 refine KG.out.mono ?_;rintro e y6 ⟨rfl,g6⟩;have G9:=zh g6;clear KG g6 G8;obtain ⟨V,hV⟩:∃ V,V=y6.alloc (l T.c 99):=⟨_,rfl⟩;have bV:D y6.heap.size y6 V:=by rw [hV];exact zba
 obtain ⟨u9,GV0⟩:∃ u9,Gk w (l su0.c 99 (0,0)) R u9 V:=⟨_,G9.out.below bV⟩;have GV:=zh GV0;have HVT:Hid (V.heap[y6.heap.size]?=j (l T.c 99 (0,0))):=by show _=_;rw [hV];exact ztJ y6 _
 rw [HX.out] at hV;have HVV:=zh hV;clear hV bV G9 GV0
 go_wp2_with fail
 rw [←HVV.out,←HX.out];refine (KP.out _).mono ?_;rintro e z ⟨rfl,bz⟩;have Gz:=GV.out.below bz;have hb:=Gz.be;have KZ:Hid (z.heap[w.heap.size]?=j (l su0.c 99 (0,0))):=Gz.r0;have TZ:=zh ((bz.block _ (zgx HVT.out)).trans HVT.out);clear Gz GV HVT HVV HX KP bz;obtain ⟨Z0,hZ0⟩:∃ Z,Z=z.setRow w.heap.size su0.c:=⟨_,rfl⟩;obtain ⟨Z1,hZ1⟩:∃ Z,Z=z.setRow w.heap.size T.c:=⟨_,rfl⟩;have B0:Hid (D w.heap.size w Z0):=by rw [hZ0];exact hb.trans ⟨rfl,rfl,rfl,by simp,fun k hk=>setRow_other _ _ _ _ (by omega)⟩
 have B1:Hid (D w.heap.size w Z1):=by rw [hZ1];exact hb.trans ⟨rfl,rfl,rfl,by simp,fun k hk=>setRow_other _ _ _ _ (by omega)⟩
 have K0:Hid (Z0.heap[w.heap.size]?=j (l su0.c 99 (0,0))):=by show _=_;rw [hZ0];exact setRow_heap _ _ _ _ 99 (0,0) KZ.out
 have K1:Hid (Z1.heap[w.heap.size]?=j (l T.c 99 (0,0))):=by show _=_;rw [hZ1];exact setRow_heap _ _ _ _ 99 (0,0) KZ.out
 have HZ0:=zh hZ0;have HZ1:=zh hZ1;clear hZ0 hZ1 hb
 cases r with
 | false =>
   clear HTE
   go_wp2_with (refine zay rfl _ _ rfl _ _ su0 su0 rfl rfl KZ.out ?_;refine zab HZ0.out.symm ?_;go_frame)
   exact ztP (v:=_) (zqS _ _ w.heap.size su0 rfl K0.out) rfl ⟨by rw [HS.out,HG.out];rfl,B0.out⟩
 | true =>
   cases te with
   | false =>
     have hne:=HTE.out;clear HTE
     go_wp2_with (refine zay rfl _ _ rfl _ _ su0 su0 rfl rfl KZ.out ?_;refine zab HZ0.out.symm ?_;go_frame)
     exact ztP (v:=_) (zqS _ _ w.heap.size su0 rfl K0.out) rfl ⟨by rw [HS.out,HG.out];rfl,B0.out⟩
   | true =>
     have hne:=HTE.out;clear HTE
     go_wp2_with (first|(refine zdn rfl _ rfl _ _ T rfl TZ.out ?_;go_frame)|(refine zay rfl _ _ rfl _ _ T su0 rfl rfl KZ.out ?_;refine zab HZ1.out.symm ?_;go_frame))
     exact ztP (v:=_) (zqS _ _ w.heap.size T rfl K1.out) rfl ⟨by rw [HS.out,HG.out];rfl,B1.out⟩
theorem zhP (b:ByteArray) (w:C) (hb:b.size≤281474976710656):F A 127 #[G b] w fun e w'=>e=E (M #[(jH b).val,d f (jV b),N (jO b)])∧D w.heap.size w w':=by
 obtain ⟨W0,hW0⟩:∃ W0,W0=w.alloc (l hd0.c 110):=⟨_,rfl⟩;have b0:D w.heap.size w W0:=by rw [hW0];exact zba
 have k0:W0.heap[w.heap.size]?=j (l hd0.c 110 (0,0)):=by rw [hW0];exact ztJ w _
 have s0:W0.heap.size=w.heap.size+1:=by rw [hW0];simp
 have KN:=zh (zcE b W0);have HB0:=zh b0;have HK0:=zh k0;have HS0:=zh s0;have HBZ:=zh hb;obtain ⟨n,hn⟩:∃ n,n=za1 b 1:=⟨_,rfl⟩;obtain ⟨u,hu⟩:∃ u,u=zan b 1:=⟨_,rfl⟩;have hn1:=zbZ b;rw [←hn] at hn1;have hwr:f.wrap (n:Int)=(n:Int):=IntWalk.i64_in _ (by omega);have hni:(n:Int)≤255:=by omega
 obtain ⟨v,hv0⟩:∃ v:Int,v=(n:Int)-16:=⟨_,rfl⟩;have hwr2:f.wrap ((n:Int)-16)=v:=by rw [hv0];exact IntWalk.i64_in _ (by omega)
 have hvv:hv b=v:=by unfold hv;rw [←hn,hv0]
 have hrs:rh2 b=zs1 v u:=by unfold rh2;rw [hvv,←hu]
 have hok:=zp6 b;obtain ⟨m,hm⟩:∃ m,m=zaR v (zaN v u 8) 1 % 99:=⟨_,rfl⟩;have hq:((zaR v (zaN v u 8) 1:Nat):Int) % 99=(m:Int):=by rw [hm];omega
 have hl1:(m:Int)≤99:=by rw [hm];omega
 obtain ⟨T,hT⟩:∃ T:Hd,T=⟨zaR v u 8,m,zaR v (zaN v (zaN v u 8) 1) 8⟩:=⟨_,rfl⟩
 have hrT:rh2 b=T:=by
  rw [hrs,hT];unfold zs1 k2 k1;rw [←hm]
 rw [hrT] at hok;have KP:=zh (fun (W:C)=>zev v T W hok);obtain ⟨r,hr⟩:∃ r,r=hO v T:=⟨_,rfl⟩;obtain ⟨p,hp⟩:∃ p,p=hS v T:=⟨_,rfl⟩;rw [←hr,←hp] at KP;obtain ⟨te,hte⟩:∃ te,te=(p.toList==b.toList):=⟨_,rfl⟩
 have hg2:jO2 b=(r&&te):=by
  unfold jO2;rw [hvv,hrT,←hr,hte,hp]
  cases hrr:r with
  | false=>rfl
  | true=>unfold hS;rw [←hr,hrr,if_pos rfl]
 have HG:Hid (jO b=(r&&te)):=by show _=_;rw [←zsc,hg2]
 have HS:Hid (jH b=if (r&&te)=H then T else hd0):=by
  show _=_;unfold jH;rw [HG.out]
  cases hx:(r&&te) with
  | false=>rfl
  | true=>rw [if_pos rfl,if_pos rfl,←zsd (by rw [HG.out,hx]),hrT]
 have HJ:Hid (jV b=if (r&&te)=H then v else 0):=by show _=_;unfold jV;rw [HG.out,hvv]
 have HTE:=zh hte.symm;have HU:=zh hu;have HN:=zh hn;have HT:Hid (T.c=#[d B (zaR v u 8:Nat),d f m,d B (zaR v (zaN v (zaN v u 8) 1) 8:Nat)]):=by show _=_;rw [hT,Hd.c]
 have HX:Hid (T.c=_):=HT.out;unfold Hd.val at KP;have HV0:=zh hv0;clear b0 k0 s0 hb hn hu hn1 hrs hrT hr hp hte hT HT hg2 hm hvv hok hv0;unfold rdp at *;have hz0:(w.alloc (l hd0.c 110))=w.alloc (l #[d B 0,d f 0,d B 0] 110):=rfl;rw [hz0] at hW0;clear hz0;have HW0:=zh hW0;clear hW0;go_enter func127,ntmps127
 go_wp2_with fail
 rw [←HW0.out];refine KN.out.mono ?_;rintro e w1 ⟨rfl,hw1⟩;obtain ⟨R,hR⟩:∃ R,R=W0.heap.size:=⟨_,rfl⟩;have r1:Rd 261 R b I w1:=by rw [hw1,hR];exact Rd.new _ _ _ _
 have b1:D W0.heap.size W0 w1:=by rw [hw1];exact zba
 have G1:Hid (Gk w (l hd0.c 110 (0,0)) R b w1):=⟨HB0.out.trans (b1.mono HB0.out.size),(b1.block _ (by have:=HS0.out;omega)).trans HK0.out,⟨_,r1,fun h=>by cases h⟩,by have:=HS0.out;omega,HBZ.out⟩;have HRR:=zh hR;clear hw1 r1 b1 hR;rw [←HRR.out]
 have KF:Hid (F A 190 #[L (j ⟨R,0,q⟩),d f 1] w1 fun e w'=>e=E (d B (za1 b 1))∧Gk w (l hd0.c 110 (0,0)) R (zan b 1) w'):=by
  obtain ⟨bad,hr,hs⟩:=G1.out.rd;exact (zaI R b bad 1 w1 hr hs HBZ.out).mono fun e w' ⟨h1,h2,h3⟩=>⟨h1,G1.out.grown ⟨_,h2,sane_fix b bad 1 hs⟩ h3 (ztL (zak b 1) HBZ.out)⟩
 unfold rdp at *
 go_wp2_with fail
 refine KF.out.mono ?_;rintro e w3 ⟨rfl,g3⟩;have G3:=zh g3;clear g3 KF KN G1 HK0 HB0 HS0 HW0 HRR;rw [←HU.out] at G3;rw [←HN.out];have KG:=zh (zjw v _ G3.out)
 go_wp2_with fail
 refine KG.out.mono ?_;rintro e y1 ⟨rfl,g1⟩;have G4:=zh g1;clear KG g1 G3;have KG:=zh (zdV v _ G4.out)
 go_wp2_with fail
 refine KG.out.mono ?_;rintro e y2 ⟨rfl,g2⟩;have G5:=zh g2;clear KG g2 G4;have KG:=zh (zjw v _ G5.out)
 go_wp2_with fail
 refine KG.out.mono ?_;rintro e y3 ⟨rfl,g3⟩;have G6:=zh g3;clear KG g3 G5;obtain ⟨V,hV⟩:∃ V,V=y3.alloc (l T.c 110):=⟨_,rfl⟩;have bV:D y3.heap.size y3 V:=by rw [hV];exact zba
 obtain ⟨u9,GV0⟩:∃ u9,Gk w (l hd0.c 110 (0,0)) R u9 V:=⟨_,G6.out.below bV⟩;have GV:=zh GV0;have HVT:Hid (V.heap[y3.heap.size]?=j (l T.c 110 (0,0))):=by show _=_;rw [hV];exact ztJ y3 _
 rw [HX.out] at hV;have HVV:=zh hV;clear hV bV G6 GV0
 go_wp2_with fail
 rw [←HVV.out,←HX.out];refine (KP.out _).mono ?_;rintro e z ⟨rfl,bz⟩;have Gz:=GV.out.below bz;have hb:=Gz.be;have KZ:Hid (z.heap[w.heap.size]?=j (l hd0.c 110 (0,0))):=Gz.r0;have TZ:=zh ((bz.block _ (zgx HVT.out)).trans HVT.out);clear Gz GV HVT HVV HX KP bz;obtain ⟨Z0,hZ0⟩:∃ Z,Z=z.setRow w.heap.size hd0.c:=⟨_,rfl⟩;obtain ⟨Z1,hZ1⟩:∃ Z,Z=z.setRow w.heap.size T.c:=⟨_,rfl⟩;have B0:Hid (D w.heap.size w Z0):=by rw [hZ0];exact hb.trans ⟨rfl,rfl,rfl,by simp,fun k hk=>setRow_other _ _ _ _ (by omega)⟩
 have B1:Hid (D w.heap.size w Z1):=by rw [hZ1];exact hb.trans ⟨rfl,rfl,rfl,by simp,fun k hk=>setRow_other _ _ _ _ (by omega)⟩
 have K0:Hid (Z0.heap[w.heap.size]?=j (l hd0.c 110 (0,0))):=by show _=_;rw [hZ0];exact setRow_heap _ _ _ _ 110 (0,0) KZ.out
 have K1:Hid (Z1.heap[w.heap.size]?=j (l T.c 110 (0,0))):=by show _=_;rw [hZ1];exact setRow_heap _ _ _ _ 110 (0,0) KZ.out
 have HZ0:=zh hZ0;have HZ1:=zh hZ1;clear hZ0 hZ1 hb
 cases r with
 | false =>
   clear HTE
   go_wp2_with (refine zaz rfl _ _ rfl _ _ hd0 hd0 rfl rfl KZ.out ?_;refine zab HZ0.out.symm ?_;go_frame)
   exact ztP (v:=_) (zqT _ _ w.heap.size hd0 rfl K0.out) rfl ⟨by rw [HS.out,HG.out,HJ.out];rfl,B0.out⟩
 | true =>
   cases te with
   | false =>
     have hne:=HTE.out;clear HTE
     go_wp2_with (refine zaz rfl _ _ rfl _ _ hd0 hd0 rfl rfl KZ.out ?_;refine zab HZ0.out.symm ?_;go_frame)
     exact ztP (v:=_) (zqT _ _ w.heap.size hd0 rfl K0.out) rfl ⟨by rw [HS.out,HG.out,HJ.out];rfl,B0.out⟩
   | true =>
     have hne:=HTE.out;clear HTE
     go_wp2_with (first|(refine zfS rfl _ rfl _ _ T rfl TZ.out ?_;go_frame)|(refine zaz rfl _ _ rfl _ _ T hd0 rfl rfl KZ.out ?_;refine zab HZ1.out.symm ?_;go_frame))
     exact ztP (v:=_) (zqT _ _ w.heap.size T rfl K1.out) rfl ⟨by rw [HS.out,HG.out,HJ.out];rfl,B1.out⟩
end J
end Go.Proofs.YtidndekacnmihaaGreat
