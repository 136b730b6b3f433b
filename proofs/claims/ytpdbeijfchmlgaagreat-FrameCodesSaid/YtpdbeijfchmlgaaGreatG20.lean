/-
  FrameCodes: part G20.
  Conditions: named in each theorem.
-/
import Derived.Test.YtpdbeijfchmlgaaGreatZ0
import Derived.Test.YtpdbeijfchmlgaaGreatG16
import Derived.Test.YtpdbeijfchmlgaaGreatG17
import Derived.Test.YtpdbeijfchmlgaaGreatG18
import Derived.Test.YtpdbeijfchmlgaaGreatG19
set_option linter.unusedVariables false
set_option linter.unusedSimpArgs false
set_option maxHeartbeats 16000000
set_option maxRecDepth 100000
namespace Go.Proofs.YtpdbeijfchmlgaaGreat
open Go.RowKit
open Vi
theorem fN_put (v:Int) (k:Nat) (kk:Int) (hkk:kk=(k:Int)) (hk:k≤8) (h0:0≤v) (h1:v.toNat<256 ^ k) (t:ByteArray) :
 ((fixV (fN v kk++t) kk:Nat):Int)=v∧fixT (fN v kk++t) kk=t:=by
 subst hkk;have h:=fix_put v.toNat k hk t;refine ⟨?_,h.2.1⟩;unfold fN;rw [h.1,Nat.mod_eq_of_lt h1];omega
theorem no_old:∀ k:Int,0≤k→k≤10→hasL (fl k) 111=false:=by
 intro k h0 h1
 have:k=0∨k=1∨k=2∨k=3∨k=4∨k=5∨k=6∨k=7∨k=8∨k=9∨k=10:=by omega
 rcases this with rfl|rfl|rfl|rfl|rfl|rfl|rfl|rfl|rfl|rfl|rfl<;>decide +kernel
theorem may_old {X:En} (ok:X.Ok) (h:mayB X=true):X.old=⟨#[]⟩:=by
 have hr:=mayB_right h;have A:=(asked_iff X ok).1 hr;have f:0≤X.kind∧X.kind≤11:=of_decide_eq_true A.f
 have h11:X.kind≠11:=by
  intro e;unfold mayB lvl at h;rw [if_pos e] at h
  simp at h
 have hz:=A.o0 (no_old X.kind f.1 (by omega))
 exact ByteArray.ext (Array.eq_empty_of_size_eq_zero (show X.old.size=0 by omega))
theorem pb_right (X:En) (r:ByteArray):pb X++r=fN X.kind 1++(fN X.term 8++(fN X.index 8++(fN X.client 8++(fN X.seq 8++(fN X.block 4++(fN X.many 4++(fN X.node 1++(fN X.level 1++(fN X.data.size 1++(X.data++(zer (66-X.data.size)++r))))))))))):=by
 unfold pb;simp only [append_assoc3]
theorem byt_put5 (a t:ByteArray) (n:Int) (hn:n=(a.size:Int)):bytV (a++t) n=a∧bytT (a++t) n=t:=by
 subst hn;have h:=byt_yes (a++t) a.size (by rw [ByteArray.size_append];omega);refine ⟨h.1.trans (extract_left a t),h.2.1.trans ?_⟩;unfold sk;exact extract_right a t
theorem got_put {X:En} (ok:X.Ok) (h:mayB X=true) (r:ByteArray):getO (pb X++r)=true∧getE (pb X++r)=X∧getT (pb X++r)=r:=by
 have fw:=few_of ok (mayB_right h);have hold:=may_old ok h;have hps:=pb_size fw;have hd:=fw.d;have p1:(256:Nat) ^ 1=256:=by decide
 have p4:(256:Nat) ^ 4=4294967296:=by decide
 have p8:(256:Nat) ^ 8=18446744073709551616:=by decide
 have x1:=ok.t0;have x2:=ok.t1;have x3:=ok.i0;have x4:=ok.i1;have x5:=ok.c0;have x6:=ok.c1;have x7:=ok.s0;have x8:=ok.s1;have x9:=ok.b0;have x10:=ok.m0;have y1:=fw.k0;have y2:=fw.k1;have y3:=fw.n0;have y4:=fw.n1;have y5:=fw.l0;have y6:=fw.l1;have y7:=fw.b;have y8:=fw.m;obtain ⟨s,hs⟩:∃ s,s=pb X++r:=⟨_,rfl⟩;have hsz:110≤s.size:=by rw [hs,ByteArray.size_append,hps];omega
 rw [←hs];have e:=pb_right X r;rw [←hs] at e;have f0:=fN_put X.kind 1 1 rfl (by omega) y1 (by rw [p1];omega);have f1:=fN_put X.term 8 8 rfl (by omega) x1 (by rw [p8];omega);have f2:=fN_put X.index 8 8 rfl (by omega) x3 (by rw [p8];omega);have f3:=fN_put X.client 8 8 rfl (by omega) x5 (by rw [p8];omega);have f4:=fN_put X.seq 8 8 rfl (by omega) x7 (by rw [p8];omega);have f5:=fN_put X.block 4 4 rfl (by omega) x9 (by rw [p4];omega);have f6:=fN_put X.many 4 4 rfl (by omega) x10 (by rw [p4];omega);have f7:=fN_put X.node 1 1 rfl (by omega) y3 (by rw [p1];omega);have f8:=fN_put X.level 1 1 rfl (by omega) y5 (by rw [p1];omega);have f9:=fN_put (X.data.size:Int) 1 1 rfl (by omega) (by omega) (by rw [p1];omega);have u1:t1 s=fN X.term 8++(fN X.index 8++(fN X.client 8++(fN X.seq 8++(fN X.block 4++(fN X.many 4++(fN X.node 1++(fN X.level 1++(fN X.data.size 1++(X.data++(zer (66-X.data.size)++r)))))))))):=by unfold t1;rw [e];exact (f0 _).2
 have u2:t2 s=fN X.index 8++(fN X.client 8++(fN X.seq 8++(fN X.block 4++(fN X.many 4++(fN X.node 1++(fN X.level 1++(fN X.data.size 1++(X.data++(zer (66-X.data.size)++r))))))))):=by unfold t2;rw [u1];exact (f1 _).2
 have u3:t3 s=fN X.client 8++(fN X.seq 8++(fN X.block 4++(fN X.many 4++(fN X.node 1++(fN X.level 1++(fN X.data.size 1++(X.data++(zer (66-X.data.size)++r)))))))):=by unfold t3;rw [u2];exact (f2 _).2
 have u4:t4 s=fN X.seq 8++(fN X.block 4++(fN X.many 4++(fN X.node 1++(fN X.level 1++(fN X.data.size 1++(X.data++(zer (66-X.data.size)++r))))))):=by unfold t4;rw [u3];exact (f3 _).2
 have u5:t5 s=fN X.block 4++(fN X.many 4++(fN X.node 1++(fN X.level 1++(fN X.data.size 1++(X.data++(zer (66-X.data.size)++r)))))):=by unfold t5;rw [u4];exact (f4 _).2
 have u6:t6 s=fN X.many 4++(fN X.node 1++(fN X.level 1++(fN X.data.size 1++(X.data++(zer (66-X.data.size)++r))))):=by unfold t6;rw [u5];exact (f5 _).2
 have u7:t7 s=fN X.node 1++(fN X.level 1++(fN X.data.size 1++(X.data++(zer (66-X.data.size)++r)))):=by unfold t7;rw [u6];exact (f6 _).2
 have u8:t8 s=fN X.level 1++(fN X.data.size 1++(X.data++(zer (66-X.data.size)++r))):=by unfold t8;rw [u7];exact (f7 _).2
 have u9:t9 s=fN X.data.size 1++(X.data++(zer (66-X.data.size)++r)):=by unfold t9;rw [u8];exact (f8 _).2
 have u10:t10 s=X.data++(zer (66-X.data.size)++r):=by unfold t10;rw [u9];exact (f9 _).2
 have hnd:nd s=X.data.size:=by
  have h1:=(f9 (X.data++(zer (66-X.data.size)++r))).1;rw [←u9] at h1;have h2:((nd s:Nat):Int)=(X.data.size:Int):=h1;omega
 have d1:=byt_put5 X.data (zer (66-X.data.size)++r) (nd s:Int) (by rw [hnd]);have hdat:dat s=X.data:=by unfold dat;rw [u10];exact d1.1
 have u11:t11 s=zer (66-X.data.size)++r:=by unfold t11;rw [u10];exact d1.2
 have d2:=byt_put5 (zer (66-X.data.size)) r (66-(nd s:Int)) (by rw [zer_size,hnd];omega);have hbeh:beh s=zer (66-X.data.size):=by unfold beh;rw [u11];exact d2.1
 have hT:t12 s=r:=by unfold t12;rw [u11];exact d2.2
 have hpr:prs s=X:=by
  have g0:=(f0 (t1 s)).1;rw [show fN X.kind 1++t1 s=s by rw [u1,←e]] at g0;have g1:=(f1 (t2 s)).1;rw [show fN X.term 8++t2 s=t1 s by rw [u1,u2]] at g1;have g2:=(f2 (t3 s)).1;rw [show fN X.index 8++t3 s=t2 s by rw [u2,u3]] at g2;have g3:=(f3 (t4 s)).1;rw [show fN X.client 8++t4 s=t3 s by rw [u3,u4]] at g3;have g4:=(f4 (t5 s)).1;rw [show fN X.seq 8++t5 s=t4 s by rw [u4,u5]] at g4;have g5:=(f5 (t6 s)).1;rw [show fN X.block 4++t6 s=t5 s by rw [u5,u6]] at g5;have g6:=(f6 (t7 s)).1;rw [show fN X.many 4++t7 s=t6 s by rw [u6,u7]] at g6;have g7:=(f7 (t8 s)).1;rw [show fN X.node 1++t8 s=t7 s by rw [u7,u8]] at g7;have g8:=(f8 (t9 s)).1;rw [show fN X.level 1++t9 s=t8 s by rw [u8,u9]] at g8;unfold prs prd;rw [g0,g1,g2,g3,g4,g5,g6,g7,g8,hdat,←hold]
 have hall:allO s=true:=(allO_iff s).2 ⟨hsz,by omega⟩
 have ho:getO s=true:=by
  unfold getO;rw [hall,hpr,h,hbeh,zer_size]
  simp
 refine ⟨ho,by unfold getE;rw [if_pos ho,hpr],?_⟩;unfold getT;rw [if_pos ho,←(t_rest s hsz (by omega)).2.2,hT]
end Go.Proofs.YtpdbeijfchmlgaaGreat
namespace Go.Proofs.YtpdbeijfchmlgaaGreat
open Go.RowKit
open Vi
def gEs:Nat→ByteArray→List En
 | 0,_=>[]
 | n+1,t=>getE t :: gEs n (getT t)
def gTs:Nat→ByteArray→ByteArray
 | 0,t=>t
 | n+1,t=>gTs n (getT t)
def gOs:Nat→ByteArray→Bool
 | 0,_=>true
 | n+1,t=>getO t&&gOs n (getT t)
theorem gEs_length:∀ (n:Nat) (t:ByteArray),(gEs n t).length=n
 | 0,_=>rfl
 | n+1,t=>by show (gEs n (getT t)).length+1=_;rw [gEs_length]
theorem getO_may {t:ByteArray} (h:getO t=true):mayB (prs t)=true:=by
 unfold getO at h;simp only [Bool.and_eq_true] at h;exact h.2.1
theorem getO_pb {t:ByteArray} (h:getO t=true):nums (pb (prs t))=(nums t).take 110:=by
 have hs:=getO_size h
 have h1:decide (nums (beh t)=nums (zer (beh t).size))=true:=by
  unfold getO at h;simp only [Bool.and_eq_true] at h;exact h.2.2
 have h2:=(pb_iff t hs.1 hs.2).2 (of_decide_eq_true h1);rw [h2,nums_extract]
 simp
theorem gOs_text:∀ (n:Nat) (t:ByteArray),gOs n t=true →
 110*n≤t.size∧gTs n t=sk t (110*n)∧nums (pbs (gEs n t))=(nums t).take (110*n)∧∀ e∈gEs n t,mayB e=true
 | 0,t,_=>⟨by omega,(sk_zero t).symm,by simp [gEs,pbs,nums],fun e he=>by cases he⟩
 | n+1,t,h=>by
   unfold gOs at h;rw [Bool.and_eq_true] at h;obtain ⟨h1,h2⟩:=h;have hs:=getO_size h1;have eT:getT t=sk t 110:=by unfold getT;rw [if_pos h1]
   have eE:getE t=prs t:=by unfold getE;rw [if_pos h1]
   obtain ⟨i1,i2,i3,i4⟩:=gOs_text n (getT t) h2;rw [eT,sk_size] at i1;refine ⟨by omega,?_,?_,?_⟩
   ·show gTs n (getT t)=_
    rw [i2,eT,sk_sk]
    congr 1
    omega
   ·show nums (pb (getE t)++pbs (gEs n (getT t)))=_
    rw [nums_append,i3,eE,getO_pb h1,eT,nums_sk,show 110*(n+1)=110+110*n by omega,take_split]
   ·intro e he
    rcases List.mem_cons.1 he with rfl|he
    ·rw [eE];exact getO_may h1
    ·exact i4 e he
theorem got_pbs:∀ (es:List En) (r:ByteArray),(∀ e∈es,e.Ok∧mayB e=true) →
 gOs es.length (pbs es++r)=true∧gEs es.length (pbs es++r)=es∧gTs es.length (pbs es++r)=r
 | [],r,_=>⟨rfl,rfl,by show (⟨#[]⟩:ByteArray)++r=r;apply ByteArray.ext;simp⟩
 | e :: es,r,h=>by
   have he:=h e (by simp);obtain ⟨g1,g2,g3⟩:=got_put he.1 he.2 (pbs es++r);obtain ⟨i1,i2,i3⟩:=got_pbs es r fun x hx=>h x (by simp [hx])
   have ha:pbs (e :: es)++r=pb e++(pbs es++r):=by
    show pb e++pbs es++r=_
    rw [append_assoc3]
   rw [ha];refine ⟨?_,?_,?_⟩
   ·show (getO (pb e++(pbs es++r))&&gOs es.length (getT (pb e++(pbs es++r))))=true
    rw [g1,g3,i1];rfl
   ·show getE (pb e++(pbs es++r)) :: gEs es.length (getT (pb e++(pbs es++r)))=_
    rw [g2,g3,i2]
   ·show gTs es.length (getT (pb e++(pbs es++r)))=_
    rw [g3,i3]
def u1 (s:ByteArray):ByteArray:=fixT s 1
def u2 (s:ByteArray):ByteArray:=fixT (u1 s) 1
def u3 (s:ByteArray):ByteArray:=fixT (u2 s) 1
def u4 (s:ByteArray):ByteArray:=fixT (u3 s) 8
def u5 (s:ByteArray):ByteArray:=fixT (u4 s) 8
def u6 (s:ByteArray):ByteArray:=fixT (u5 s) 8
def u7 (s:ByteArray):ByteArray:=fixT (u6 s) 8
def u8 (s:ByteArray):ByteArray:=fixT (u7 s) 8
def u9 (s:ByteArray):ByteArray:=fixT (u8 s) 1
def u10 (s:ByteArray):ByteArray:=fixT (u9 s) 1
def hdM (s:ByteArray):Bool:=hasF s 1&&hasF (u1 s) 1&&hasF (u2 s) 1&&hasF (u3 s) 8&&hasF (u4 s) 8&&hasF (u5 s) 8&&hasF (u6 s) 8&&hasF (u7 s) 8&&hasF (u8 s) 1&&hasF (u9 s) 1
theorem u_all (s:ByteArray) (h:45≤s.size) :
 u1 s=sk s 1∧u2 s=sk s 2∧u3 s=sk s 3∧u4 s=sk s 11∧u5 s=sk s 19∧u6 s=sk s 27∧u7 s=sk s 35∧u8 s=sk s 43∧u9 s=sk s 44∧u10 s=sk s 45∧hdM s=true:=by
 have a1:=fix_yes s 1 (by omega) (by omega);have e1:u1 s=sk s 1:=a1.2.1;have a2:=fix_yes (sk s 1) 1 (by omega) (by rw [sk_size];omega);have e2:u2 s=sk s 2:=by unfold u2;rw [e1];exact a2.2.1.trans (sk_sk _ _ _)
 have a3:=fix_yes (sk s 2) 1 (by omega) (by rw [sk_size];omega);have e3:u3 s=sk s 3:=by unfold u3;rw [e2];exact a3.2.1.trans (sk_sk _ _ _)
 have a4:=fix_yes (sk s 3) 8 (by omega) (by rw [sk_size];omega);have e4:u4 s=sk s 11:=by unfold u4;rw [e3];exact a4.2.1.trans (sk_sk _ _ _)
 have a5:=fix_yes (sk s 11) 8 (by omega) (by rw [sk_size];omega);have e5:u5 s=sk s 19:=by unfold u5;rw [e4];exact a5.2.1.trans (sk_sk _ _ _)
 have a6:=fix_yes (sk s 19) 8 (by omega) (by rw [sk_size];omega);have e6:u6 s=sk s 27:=by unfold u6;rw [e5];exact a6.2.1.trans (sk_sk _ _ _)
 have a7:=fix_yes (sk s 27) 8 (by omega) (by rw [sk_size];omega);have e7:u7 s=sk s 35:=by unfold u7;rw [e6];exact a7.2.1.trans (sk_sk _ _ _)
 have a8:=fix_yes (sk s 35) 8 (by omega) (by rw [sk_size];omega);have e8:u8 s=sk s 43:=by unfold u8;rw [e7];exact a8.2.1.trans (sk_sk _ _ _)
 have a9:=fix_yes (sk s 43) 1 (by omega) (by rw [sk_size];omega);have e9:u9 s=sk s 44:=by unfold u9;rw [e8];exact a9.2.1.trans (sk_sk _ _ _)
 have a10:=fix_yes (sk s 44) 1 (by omega) (by rw [sk_size];omega);have e10:u10 s=sk s 45:=by unfold u10;rw [e9];exact a10.2.1.trans (sk_sk _ _ _)
 refine ⟨e1,e2,e3,e4,e5,e6,e7,e8,e9,e10,?_⟩;have b1:hasF s 1=true:=a1.2.2;have b2:hasF (u1 s) 1=true:=by rw [e1];exact a2.2.2
 have b3:hasF (u2 s) 1=true:=by rw [e2];exact a3.2.2
 have b4:hasF (u3 s) 8=true:=by rw [e3];exact a4.2.2
 have b5:hasF (u4 s) 8=true:=by rw [e4];exact a5.2.2
 have b6:hasF (u5 s) 8=true:=by rw [e5];exact a6.2.2
 have b7:hasF (u6 s) 8=true:=by rw [e6];exact a7.2.2
 have b8:hasF (u7 s) 8=true:=by rw [e7];exact a8.2.2
 have b9:hasF (u8 s) 1=true:=by rw [e8];exact a9.2.2
 have b10:hasF (u9 s) 1=true:=by rw [e9];exact a10.2.2
 unfold hdM;rw [b1,b2,b3,b4,b5,b6,b7,b8,b9,b10];rfl
theorem hdM_size (s:ByteArray) (h:hdM s=true):45≤s.size:=by
 unfold hdM at h;simp only [Bool.and_eq_true] at h;obtain ⟨⟨⟨⟨⟨⟨⟨⟨⟨h1,h2⟩,h3⟩,h4⟩,h5⟩,h6⟩,h7⟩,h8⟩,h9⟩,h10⟩:=h;have a1:=fixT_size5 _ 1 h1;have a2:=fixT_size5 _ 1 h2;have a3:=fixT_size5 _ 1 h3;have a4:=fixT_size5 _ 8 h4;have a5:=fixT_size5 _ 8 h5;have a6:=fixT_size5 _ 8 h6;have a7:=fixT_size5 _ 8 h7;have a8:=fixT_size5 _ 8 h8;have a9:=fixT_size5 _ 1 h9;have a10:=fixT_size5 _ 1 h10;have c1:(u1 s).size=s.size-1:=a1.2;have c2:(u2 s).size=(u1 s).size-1:=a2.2;have c3:(u3 s).size=(u2 s).size-1:=a3.2;have c4:(u4 s).size=(u3 s).size-8:=a4.2;have c5:(u5 s).size=(u4 s).size-8:=a5.2;have c6:(u6 s).size=(u5 s).size-8:=a6.2;have c7:(u7 s).size=(u6 s).size-8:=a7.2;have c8:(u8 s).size=(u7 s).size-8:=a8.2;have c9:(u9 s).size=(u8 s).size-1:=a9.2;omega
def mN (s:ByteArray):Nat:=fixV (u9 s) 1
def mY (s:ByteArray):Nat:=fixV (u8 s) 1
def mG (s:ByteArray):ByteArray:=gTs (mN s) (u10 s)
def mZ (s:ByteArray):Nat:=fixV (mG s) 4
def mS (s:ByteArray):ByteArray:=bytV (fixT (mG s) 4) (mZ s)
def mR (s:ByteArray):ByteArray:=bytT (fixT (mG s) 4) (mZ s)
def mPrs (s:ByteArray) (A:Option Addr) (c:Nat):Ms :=
 { kind:=fixV s 1,frm:=fixV (u1 s) 1,dst:=fixV (u2 s) 1,term:=fixV (u3 s) 8,index:=fixV (u4 s) 8,prev:=fixV (u5 s) 8,commit:=fixV (u6 s) 8,mark:=fixV (u7 s) 8,ok:=mY s==1,A:=A,n:=mN s,c:=c,es:=gEs (mN s) (u10 s),snap:=mS s }
def mAll (s:ByteArray):Bool:=hdM s&&(decide (mY s≤1)&&(gOs (mN s) (u10 s)&&(hasF (mG s) 4&&(hasB (fixT (mG s) 4) (mZ s)&&decide ((mR s).size=0)))))
end Go.Proofs.YtpdbeijfchmlgaaGreat
namespace Go.Proofs.YtpdbeijfchmlgaaGreat
open Go.RowKit
open Vi
theorem mAll_sizes (s:ByteArray) (h:mAll s=true) :
 s.size=49+110*mN s+mZ s∧mG s=sk s (45+110*mN s)∧mS s=(sk s (49+110*mN s)).extract 0 (mZ s)∧(mS s).size=mZ s∧mY s≤1 ∧
 nums (pbs (gEs (mN s) (u10 s)))=((nums s).drop 45).take (110*mN s)∧∀ e∈gEs (mN s) (u10 s),mayB e=true:=by
 unfold mAll at h;simp only [Bool.and_eq_true,decide_eq_true_eq] at h;obtain ⟨h1,h2,h3,h4,h5,h6⟩:=h;have hs:=hdM_size s h1;obtain ⟨e1,e2,e3,e4,e5,e6,e7,e8,e9,e10,_⟩:=u_all s hs;obtain ⟨g1,g2,g3,g4⟩:=gOs_text _ _ h3;rw [e10,sk_size] at g1;have eG:mG s=sk s (45+110*mN s):=by unfold mG;rw [g2,e10,sk_sk]
 have b4:=fixT_size5 (mG s) 4 h4;have b4':4≤(mG s).size:=b4.1;rw [eG,sk_size] at b4'
 have eH:fixT (mG s) 4=sk s (49+110*mN s):=by
  have h:=(fix_yes (sk s (45+110*mN s)) 4 (by omega) (by rw [sk_size];omega)).2.1;rw [eG];refine h.trans ?_;rw [sk_sk,show 45+110*mN s+4=49+110*mN s by omega]
 have b5:0≤(mZ s:Int)∧(mZ s:Int)≤(fixT (mG s) 4).size:=of_decide_eq_true h5;rw [eH,sk_size] at b5;have bb:=byt_yes (sk s (49+110*mN s)) (mZ s) (by rw [sk_size];omega);have eR:mR s=sk (sk s (49+110*mN s)) (mZ s):=by unfold mR;rw [eH];exact bb.2.1
 have eS:mS s=(sk s (49+110*mN s)).extract 0 (mZ s):=by unfold mS;rw [eH];exact bb.1
 rw [eR,sk_size,sk_size] at h6;refine ⟨by omega,eG,eS,?_,h2,?_,g4⟩
 ·rw [eS,ByteArray.size_extract,sk_size];omega
 ·rw [g3,e10,nums_sk]
theorem mAll_text (s:ByteArray) (A:Option Addr) (c:Nat) (h:mAll s=true):pbm (mPrs s A c)=s:=by
 obtain ⟨h1,eG,eS,hSs,hY,hE,_⟩:=mAll_sizes s h;obtain ⟨e1,e2,e3,e4,e5,e6,e7,e8,e9,e10,_⟩:=u_all s (by omega);obtain ⟨l,hl⟩:∃ l,l=nums s:=⟨_,rfl⟩;have hll:l.length=s.size:=by rw [hl,nums_length]
 have p0:nums (fN ((fixV s 1:Nat):Int) 1)=l.take 1:=by
  have h:=nums_field s 0 1 (by omega) (by omega);rw [sk_zero,List.drop_zero,←hl] at h;exact h
 have p1:nums (fN ((fixV (u1 s) 1:Nat):Int) 1)=(l.drop 1).take 1:=by rw [e1,hl];exact nums_field s 1 1 (by omega) (by omega)
 have p2:nums (fN ((fixV (u2 s) 1:Nat):Int) 1)=(l.drop 2).take 1:=by rw [e2,hl];exact nums_field s 2 1 (by omega) (by omega)
 have p3:nums (fN ((fixV (u3 s) 8:Nat):Int) 8)=(l.drop 3).take 8:=by rw [e3,hl];exact nums_field s 3 8 (by omega) (by omega)
 have p4:nums (fN ((fixV (u4 s) 8:Nat):Int) 8)=(l.drop 11).take 8:=by rw [e4,hl];exact nums_field s 11 8 (by omega) (by omega)
 have p5:nums (fN ((fixV (u5 s) 8:Nat):Int) 8)=(l.drop 19).take 8:=by rw [e5,hl];exact nums_field s 19 8 (by omega) (by omega)
 have p6:nums (fN ((fixV (u6 s) 8:Nat):Int) 8)=(l.drop 27).take 8:=by rw [e6,hl];exact nums_field s 27 8 (by omega) (by omega)
 have p7:nums (fN ((fixV (u7 s) 8:Nat):Int) 8)=(l.drop 35).take 8:=by rw [e7,hl];exact nums_field s 35 8 (by omega) (by omega)
 have hb:bitI (mY s==1)=((fixV (u8 s) 1:Nat):Int):=by
  show bitI (mY s==1)=((mY s:Nat):Int)
  have:mY s=0∨mY s=1:=by omega
  rcases this with h|h<;>rw [h]<;>rfl
 have p8:nums (fN (bitI (mY s==1)) 1)=(l.drop 43).take 1:=by rw [hb,e8,hl];exact nums_field s 43 1 (by omega) (by omega)
 have p9:nums (fN ((mN s:Nat):Int) 1)=(l.drop 44).take 1:=by unfold mN;rw [e9,hl];exact nums_field s 44 1 (by omega) (by omega)
 have p11:nums (fN ((mZ s:Nat):Int) 4)=(l.drop (45+110*mN s)).take 4:=by
  have h:=nums_field s (45+110*mN s) 4 (by omega) (by omega);rw [←hl,←eG] at h;exact h
 have p12:nums (mS s)=(l.drop (49+110*mN s)).take (mZ s):=by rw [eS,nums_extract,nums_sk,←hl,List.drop_zero,Nat.sub_zero]
 rw [←hl] at hE;have tk:∀ a b d,d=a+b→l.take a++(l.drop a).take b=l.take d:=fun a b d hd=>by rw [hd];exact (take_split l a b).symm
 apply nums_inj
 rw [←hl];unfold pbm mPrs;dsimp only;rw [hSs];simp only [nums_append];rw [p0,p1,p2,p3,p4,p5,p6,p7,p8,p9,hE,p11,p12];rw [tk 1 1 2 rfl,tk 2 1 3 rfl,tk 3 8 11 rfl,tk 11 8 19 rfl,tk 19 8 27 rfl,tk 27 8 35 rfl,tk 35 8 43 rfl,tk 43 1 44 rfl,tk 44 1 45 rfl,tk 45 (110*mN s) (45+110*mN s) rfl,tk (45+110*mN s) 4 (49+110*mN s) (by omega),tk (49+110*mN s) (mZ s) (49+110*mN s+mZ s) rfl];exact List.take_of_length_le (by omega)
end Go.Proofs.YtpdbeijfchmlgaaGreat
namespace Go.Proofs.YtpdbeijfchmlgaaGreat
open Go.RowKit
open Vi
theorem fN_one (v:Int) (h:0≤v∧v≤255) (t:ByteArray):((fixV (fN v 1++t) 1:Nat):Int)=v∧fixT (fN v 1++t) 1=t :=
 fN_put v 1 1 rfl (by omega) h.1 (by have:(256:Nat) ^ 1=256:=rfl;omega) t
theorem fN_eight (v:Int) (h:0≤v∧v≤18446744073709551615) (t:ByteArray):((fixV (fN v 8++t) 8:Nat):Int)=v∧fixT (fN v 8++t) 8=t :=
 fN_put v 8 8 rfl (by omega) h.1 (by have:(256:Nat) ^ 8=18446744073709551616:=rfl;omega) t
theorem mAll_put (m:Ms) (wd:m.Wide) (h:mmayB m=true) (hl:m.es.length=m.n):mAll (pbm m)=true∧mPrs (pbm m) m.A m.c=m:=by
 have hr:mrightB m=true:=by
  have h:=h;unfold mmayB at h;simp only [Bool.and_eq_true] at h;exact h.1
 have fw:=mfew_of wd hr;have hsz:=pbm_size fw hl
 have hh:hdM (pbm m)=true:=by
  obtain ⟨_,_,_,_,_,_,_,_,_,_,e⟩:=u_all (pbm m) (by omega);exact e
 have hes:∀ e∈m.es,e.Ok∧mayB e=true:=fun e he=>⟨wd.eo e he,putS_of h e he⟩;obtain ⟨x11,h11⟩:∃ x,x=fN (m.snap.size:Int) 4++m.snap:=⟨_,rfl⟩;obtain ⟨x10,h10⟩:∃ x,x=pbs m.es++x11:=⟨_,rfl⟩;obtain ⟨x9,h9⟩:∃ x,x=fN (m.n:Int) 1++x10:=⟨_,rfl⟩;obtain ⟨x8,h8⟩:∃ x,x=fN (bitI m.ok) 1++x9:=⟨_,rfl⟩;obtain ⟨x7,h7⟩:∃ x,x=fN m.mark 8++x8:=⟨_,rfl⟩;obtain ⟨x6,h6⟩:∃ x,x=fN m.commit 8++x7:=⟨_,rfl⟩;obtain ⟨x5,h5⟩:∃ x,x=fN m.prev 8++x6:=⟨_,rfl⟩;obtain ⟨x4,h4⟩:∃ x,x=fN m.index 8++x5:=⟨_,rfl⟩;obtain ⟨x3,h3⟩:∃ x,x=fN m.term 8++x4:=⟨_,rfl⟩;obtain ⟨x2,h2⟩:∃ x,x=fN m.dst 1++x3:=⟨_,rfl⟩;obtain ⟨x1,h1⟩:∃ x,x=fN m.frm 1++x2:=⟨_,rfl⟩;obtain ⟨x0,h0⟩:∃ x,x=fN m.kind 1++x1:=⟨_,rfl⟩
 have hx:pbm m=x0:=by
  rw [h0,h1,h2,h3,h4,h5,h6,h7,h8,h9,h10,h11];unfold pbm;simp only [append_assoc3]
 rw [hx] at hsz hh ⊢;have f0:=fN_one m.kind (⟨fw.k0,by have:=fw.k1;omega⟩) x1;rw [←h0] at f0;have v0:((fixV x0 1:Nat):Int)=m.kind:=by exact f0.1
 have e1:u1 x0=x1:=by unfold u1;exact f0.2
 have f1:=fN_one m.frm (⟨fw.f0,by have:=fw.f1;omega⟩) x2;rw [←h1] at f1;have v1:((fixV (u1 x0) 1:Nat):Int)=m.frm:=by rw [e1];exact f1.1
 have e2:u2 x0=x2:=by unfold u2;rw [e1];exact f1.2
 have f2:=fN_one m.dst (⟨fw.o0,by have:=fw.o1;omega⟩) x3;rw [←h2] at f2;have v2:((fixV (u2 x0) 1:Nat):Int)=m.dst:=by rw [e2];exact f2.1
 have e3:u3 x0=x3:=by unfold u3;rw [e2];exact f2.2
 have f3:=fN_eight m.term (⟨wd.t0,wd.t1⟩) x4;rw [←h3] at f3;have v3:((fixV (u3 x0) 8:Nat):Int)=m.term:=by rw [e3];exact f3.1
 have e4:u4 x0=x4:=by unfold u4;rw [e3];exact f3.2
 have f4:=fN_eight m.index (⟨wd.i0,wd.i1⟩) x5;rw [←h4] at f4;have v4:((fixV (u4 x0) 8:Nat):Int)=m.index:=by rw [e4];exact f4.1
 have e5:u5 x0=x5:=by unfold u5;rw [e4];exact f4.2
 have f5:=fN_eight m.prev (⟨wd.p0,wd.p1⟩) x6;rw [←h5] at f5;have v5:((fixV (u5 x0) 8:Nat):Int)=m.prev:=by rw [e5];exact f5.1
 have e6:u6 x0=x6:=by unfold u6;rw [e5];exact f5.2
 have f6:=fN_eight m.commit (⟨wd.c0,wd.c1⟩) x7;rw [←h6] at f6;have v6:((fixV (u6 x0) 8:Nat):Int)=m.commit:=by rw [e6];exact f6.1
 have e7:u7 x0=x7:=by unfold u7;rw [e6];exact f6.2
 have f7:=fN_eight m.mark (⟨wd.m0,wd.m1⟩) x8;rw [←h7] at f7;have v7:((fixV (u7 x0) 8:Nat):Int)=m.mark:=by rw [e7];exact f7.1
 have e8:u8 x0=x8:=by unfold u8;rw [e7];exact f7.2
 have f8:=fN_one (bitI m.ok) (by cases m.ok<;>decide) x9;rw [←h8] at f8;have v8:((fixV (u8 x0) 1:Nat):Int)=(bitI m.ok):=by rw [e8];exact f8.1
 have e9:u9 x0=x9:=by unfold u9;rw [e8];exact f8.2
 have f9:=fN_one (m.n:Int) (by have:=fw.n1;omega) x10;rw [←h9] at f9;have v9:((fixV (u9 x0) 1:Nat):Int)=(m.n:Int):=by rw [e9];exact f9.1
 have e10:u10 x0=x10:=by unfold u10;rw [e9];exact f9.2
 have eN:mN x0=m.n:=by
  have h:((mN x0:Nat):Int)=(m.n:Int):=v9;omega
 have eY:((mY x0:Nat):Int)=bitI m.ok:=v8;obtain ⟨g1,g2,g3⟩:=got_pbs m.es x11 hes;rw [←h10,hl] at g1 g2 g3;have eG:mG x0=x11:=by unfold mG;rw [eN,e10];exact g3
 have f11:((fixV x11 4:Nat):Int)=(m.snap.size:Int)∧fixT x11 4=m.snap:=by
  rw [h11];exact fN_put (m.snap.size:Int) 4 4 rfl (by omega) (by omega) (by have:=fw.s1;have:(256:Nat) ^ 4=4294967296:=rfl;omega) m.snap
 have eZ:mZ x0=m.snap.size:=by
  have h:((mZ x0:Nat):Int)=(m.snap.size:Int):=by unfold mZ;rw [eG];exact f11.1
  omega
 have hz:=byt_yes m.snap m.snap.size (Nat.le_refl _)
 have eS:mS x0=m.snap:=by
  unfold mS;rw [eG,eZ,f11.2,hz.1]
  simp
 have eR:(mR x0).size=0:=by
  unfold mR;rw [eG,eZ,f11.2,hz.2.1,sk_size];omega
 have hx11:4≤x11.size:=by rw [h11,ByteArray.size_append,fN_size _ 4 (by omega) (by omega)];show 4≤4+_;omega
 have hF:hasF x11 4=true:=(fix_yes x11 4 (by omega) hx11).2.2;have hB:hasB m.snap (m.snap.size:Int)=true:=hz.2.2;constructor
 ·unfold mAll;rw [hh,eG,eN,e10,g1,hF,f11.2,eZ,hB,decide_eq_true eR]
  have:mY x0≤1:=by
   have:bitI m.ok≤1:=by cases m.ok<;>decide
   omega
  rw [decide_eq_true this];rfl
 ·have hk:(mY x0==1)=m.ok:=by
   cases hk:m.ok with
   | true =>
     rw [hk] at eY;have h1:((mY x0:Nat):Int)=1:=eY;have h2:mY x0=1:=by omega
     rw [h2];rfl
   | false =>
     rw [hk] at eY;have h1:((mY x0:Nat):Int)=0:=eY;have h2:mY x0=0:=by omega
     rw [h2];rfl
  unfold mPrs;rw [eN,e10,g2,eS,hk,v0,v1,v2,v3,v4,v5,v6,v7]
end Go.Proofs.YtpdbeijfchmlgaaGreat
namespace Go.Proofs.YtpdbeijfchmlgaaGreat
open Go.RowKit
open Vi
structure Nq (w0:World) (g:Nat) (T:ByteArray) (b:Bool) (w:World):Prop where
 hr:Rd 178 g T b w
 fn:w.heap[w0.heap.size+1]?=some (.cells #[.func (.func 83) #[.pointer (some ⟨g,0,none⟩)] #[]] 115 (0,0))
 res:w.heap[w0.heap.size]?=some (.cells (mc mzz) 29 (0,0))
 fr:w0.grownBy w (some g)
 lg:g<w0.heap.size
 sz:T.size≤281474976710656
structure Ny (w0:World) (g p:Nat) (E:Ms) (T:ByteArray) (b:Bool) (w:World):Prop where
 q:Nq w0 g T b w
 al:w.heap[p]?=some (.cells (mc E) 29 (0,0))
 lp:w0.heap.size+1<p
theorem rd_allm {T r g:Nat} {s:ByteArray} {b:Bool} {w:World} (E:Ms) (h:Rd T g s b w) (hr:r≠g):Rd T g s b (wrm w r E) :=
 rd_set (rd_set (rd_set (rd_set (rd_set (rd_set (rd_set (rd_set (rd_set (rd_set (rd_set h hr) hr) hr) hr) hr) hr) hr) hr) hr) hr) hr
theorem gb_allm {w0 w:World} {g r:Nat} (E:Ms) (h:w0.grownBy w (some g)) (hr:w0.heap.size≤r):w0.grownBy (wrm w r E) (some g) :=
 gb_set (gb_set (gb_set (gb_set (gb_set (gb_set (gb_set (gb_set (gb_set (gb_set (gb_set h hr) hr) hr) hr) hr) hr) hr) hr) hr) hr) hr
section
variable {w0 w w1:World} {g p:Nat} {T T':ByteArray} {b b':Bool} {E E':Ms}
theorem Nq.step (h:Nq w0 g T b w) (hx:Rd 178 g T' b' w1) (hf:w.grownBy w1 (some g)) (hT:T'.size≤T.size):Nq w0 g T' b' w1:=by
 have h1:=h.lg;exact ⟨hx,(hf.block _ (zgx h.fn) (by simp;omega)).trans h.fn,(hf.block _ (zgx h.res) (by simp;omega)).trans h.res,h.fr.trans hf,h.lg,Nat.le_trans hT h.sz⟩
theorem Nq.below (h:Nq w0 g T b w) (hb:Below w.heap.size w w1):Nq w0 g T b w1 :=
 ⟨h.hr.below hb h.hr.lt,(hb.block _ (zgx h.fn)).trans h.fn,(hb.block _ (zgx h.res)).trans h.res,gb_below h.fr hb,h.lg,h.sz⟩
theorem Nq.drew (h:Nq w0 g T b w):Nq w0 g T b w.drew:=⟨h.hr,h.fn,h.res,gb_below h.fr (Below.refl _ _).drew,h.lg,h.sz⟩
theorem Nq.fcell (h:Nq w0 g T b w):w.cell? ⟨w0.heap.size+1,0,none⟩=some (.func (.func 83) #[.pointer (some ⟨g,0,none⟩)] #[]):=zcr w _ 0 _ 115 (0,0) h.fn
theorem Nq.fcella (h:Nq w0 g T b w) (o:Obj):(w.alloc o).cell? ⟨w0.heap.size+1,0,none⟩=some (.func (.func 83) #[.pointer (some ⟨g,0,none⟩)] #[]):=(h.below zba).fcell
theorem Nq.toY (E:Ms) (h:Nq w0 g T b w):Ny w0 g w.heap.size E T b (w.alloc (.cells (mc E) 29)) :=
 ⟨h.below zba,heap_alloc_new w _,(zgx h.fn)⟩
theorem Ny.step (h:Ny w0 g p E T b w) (hx:Rd 178 g T' b' w1) (hf:w.grownBy w1 (some g)) (hT:T'.size≤T.size):Ny w0 g p E T' b' w1:=by
 have h1:=h.q.lg;have h2:=h.lp;exact ⟨h.q.step hx hf hT,(hf.block _ (zgx h.al) (by simp;omega)).trans h.al,h.lp⟩
theorem Ny.below (h:Ny w0 g p E T b w) (hb:Below w.heap.size w w1):Ny w0 g p E T b w1 :=
 ⟨h.q.below hb,(hb.block _ (zgx h.al)).trans h.al,h.lp⟩
theorem Ny.drew (h:Ny w0 g p E T b w):Ny w0 g p E T b w.drew:=⟨h.q.drew,h.al,h.lp⟩
theorem Ny.fz (h:Ny w0 g p E T b w) (i:Nat):w.frozen? ⟨p,i,none⟩=false:=Md.of h.al
theorem Ny.cell (h:Ny w0 g p E T b w) (i:Nat):w.cell? ⟨p,i,none⟩=(mc E)[i]?:=zcr w _ i _ 29 (0,0) h.al
theorem Ny.set (h:Ny w0 g p E T b w) (i:Nat) (v:Value) (he:(mc E).setIfInBounds i v=mc E'):Ny w0 g p E' T b (w.setCell ⟨p,i,none⟩ v):=by
 have h1:=h.q.lg;have h2:=h.lp;refine ⟨⟨rd_set h.q.hr (by simp;omega),?_,?_,gb_set h.q.fr (by simp;omega),h.q.lg,h.q.sz⟩,?_,h.lp⟩
 ·rw [Below.heap_setCell _ _ _ _ (by simp;omega)];exact h.q.fn
 ·rw [Below.heap_setCell _ _ _ _ (by simp;omega)];exact h.q.res
 ·rw [←he];exact set_blk h.al i v
theorem Ny.sets (h:Ny w0 g p mzz T b w) (E':Ms):Ny w0 g p E' T b (wrm w p E'):=by
 have h1:=h.q.lg;have h2:=h.lp;have hB:Below (w0.heap.size+2) w (wrm w p E'):=below_allm E' (Below.refl _ _) (by omega);exact ⟨⟨rd_allm E' h.q.hr (by omega),(hB.block _ (by omega)).trans h.q.fn,(hB.block _ (by omega)).trans h.q.res,gb_allm E' h.q.fr (by omega),h.q.lg,h.q.sz⟩,store_allm E' h.al,h.lp⟩
end
section
variable (w0:World) (g p:Nat) (E:Ms) (T:ByteArray) (b:Bool) (k:Int) (w:World)
theorem nq_fix (h:Nq w0 g T b w) :
 Calls Tryz.prog 83 #[.pointer (some ⟨g,0,none⟩),.int .i64 k] w fun q w'=>q=.returned (.int .u64 (fixV T k))∧Nq w0 g (fixT T k) (b||!hasF T k) w'∧w'.cell? ⟨w0.heap.size+1,0,none⟩=some (.func (.func 83) #[.pointer (some ⟨g,0,none⟩)] #[])∧w.grownBy w' (some g) :=
 (fixedr_any g T b k w h.hr h.sz).mono fun q w' ⟨h1,h2,h3⟩=>⟨h1,h.step h2 h3 (fixT_le T k),(h.step h2 h3 (fixT_le T k)).fcell,h3⟩
theorem nq_byt (h:Nq w0 g T b w) :
 Calls Tryz.prog 84 #[.pointer (some ⟨g,0,none⟩),.int .i64 k] w fun q w'=>q=.returned (.string (bytV T k))∧Nq w0 g (bytT T k) (b||!hasB T k) w'∧w'.cell? ⟨w0.heap.size+1,0,none⟩=some (.func (.func 83) #[.pointer (some ⟨g,0,none⟩)] #[])∧w.grownBy w' (some g) :=
 (bytes_any g T b k w h.hr h.sz).mono fun q w' ⟨h1,h2,h3⟩=>⟨h1,h.step h2 h3 (bytT_le T k),(h.step h2 h3 (bytT_le T k)).fcell,h3⟩
theorem nq_small (h:Nq w0 g T b w) :
 Calls Tryz.prog 157 #[.pointer (some ⟨w0.heap.size+1,0,none⟩)] w fun q w'=>q=.returned (.int .i64 (fixV T 1))∧Nq w0 g (fixT T 1) (b||!hasF T 1) w'∧w'.cell? ⟨w0.heap.size+1,0,none⟩=some (.func (.func 83) #[.pointer (some ⟨g,0,none⟩)] #[])∧w.grownBy w' (some g):=by
 have c:=h.fcell;have hv:=fixV_lt T 1 (by omega);rw [show (256:Nat) ^ 1=256 from by decide] at hv;have K:=zh (nq_fix w0 g T b 1 w h);obtain ⟨v,hV⟩:∃ v,v=fixV T 1:=⟨_,rfl⟩;have hv2:v<256:=by rw [hV];exact hv
 rw [←hV] at K ⊢;have hw:IntKind.i64.wrap (v:Int)=(v:Int):=IntWalk.i64_in _ (by omega);clear h hV hv hv2
 go_enter Tryz.func157,Tryz.ntmps157
 go_wp2_with (go_at_call 83;(with_reducible refine K.out.mono ?_);rintro q w1 ⟨rfl,h1⟩)
 go_ret;exact ⟨rfl,h1⟩
theorem ny_fix (h:Ny w0 g p E T b w) :
 Calls Tryz.prog 83 #[.pointer (some ⟨g,0,none⟩),.int .i64 k] w fun q w'=>q=.returned (.int .u64 (fixV T k))∧Ny w0 g p E (fixT T k) (b||!hasF T k) w'∧w'.cell? ⟨w0.heap.size+1,0,none⟩=some (.func (.func 83) #[.pointer (some ⟨g,0,none⟩)] #[]) :=
 (nq_fix w0 g T b k w h.q).mono fun q w' ⟨h1,h2,h3,h4⟩=>by
   have hy:=h.step h2.hr h4 (fixT_le T k);exact ⟨h1,hy,h3⟩
theorem ny_byt (h:Ny w0 g p E T b w) :
 Calls Tryz.prog 84 #[.pointer (some ⟨g,0,none⟩),.int .i64 k] w fun q w'=>q=.returned (.string (bytV T k))∧Ny w0 g p E (bytT T k) (b||!hasB T k) w'∧w'.cell? ⟨w0.heap.size+1,0,none⟩=some (.func (.func 83) #[.pointer (some ⟨g,0,none⟩)] #[]) :=
 (nq_byt w0 g T b k w h.q).mono fun q w' ⟨h1,h2,h3,h4⟩=>by
   have hy:=h.step h2.hr h4 (bytT_le T k);exact ⟨h1,hy,h3⟩
theorem ny_small (h:Ny w0 g p E T b w) :
 Calls Tryz.prog 157 #[.pointer (some ⟨w0.heap.size+1,0,none⟩)] w fun q w'=>q=.returned (.int .i64 (fixV T 1))∧Ny w0 g p E (fixT T 1) (b||!hasF T 1) w'∧w'.cell? ⟨w0.heap.size+1,0,none⟩=some (.func (.func 83) #[.pointer (some ⟨g,0,none⟩)] #[]) :=
 (nq_small w0 g T b w h.q).mono fun q w' ⟨h1,h2,h3,h4⟩=>by
   have hy:=h.step h2.hr h4 (fixT_le T 1);exact ⟨h1,hy,h3⟩
end
theorem bit63_any (b:Bool) (w:World):Calls Tryz.prog 131 #[.bool b] w fun q w'=>q=.returned (.int .i64 (bitI b))∧w'=w:=by
 cases b
 ·go_enter Tryz.func131,Tryz.ntmps131
  go_wp2;go_ret;exact ⟨rfl,rfl⟩
 ·go_enter Tryz.func131,Tryz.ntmps131
  go_wp2;go_ret;exact ⟨rfl,rfl⟩
def mP8 (s:ByteArray):Ms:={ kind:=fixV s 1,frm:=fixV (u1 s) 1,dst:=fixV (u2 s) 1,term:=fixV (u3 s) 8,index:=fixV (u4 s) 8,prev:=fixV (u5 s) 8,commit:=fixV (u6 s) 8,mark:=fixV (u7 s) 8,ok:=false,A:=none,n:=0,c:=0,es:=[],snap:=⟨#[]⟩ }
def fm8 (s:ByteArray):Bool:=false||!hasF s 1||!hasF (u1 s) 1||!hasF (u2 s) 1||!hasF (u3 s) 8||!hasF (u4 s) 8||!hasF (u5 s) 8||!hasF (u6 s) 8||!hasF (u7 s) 8
end Go.Proofs.YtpdbeijfchmlgaaGreat
