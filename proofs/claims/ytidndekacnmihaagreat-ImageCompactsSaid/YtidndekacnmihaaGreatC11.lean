/- Parts of a proof. -/
import Derived.Test.YtidndekacnmihaaGreatC05
import Derived.Test.YtidndekacnmihaaGreatC08
import Derived.Test.YtidndekacnmihaaGreatC10
set_option linter.all false
set_option maxHeartbeats 8000000
set_option maxRecDepth 100000
namespace Go.Proofs.YtidndekacnmihaaGreat
open Bool renaming true→Z,false→qc
open Ending renaming returned→qe
open Go renaming World→L,Calls→qf
open Go.RowKit renaming Below→I,intOf→qh
open Go.RowKit.Below renaming refl→ql
open IntKind renaming i64→G,u64→qd
open Lib renaming byteCells→qk
open Obj renaming cells→D
open Option renaming some→d,none→y
open Tryz renaming prog→Y
open Value renaming int→C,slice→J,string→qg,tuple→qi,bool→qj,pointer→qm,ownBlock→qn
open Tryz
variable {B b c cap g k n:Nat} {A:Option Addr} {w w':L} {s t:ByteArray} {v:Int} {xs:List Value}
open Go.RowKit
section
open Dk
def knB (v:Int):Bool:=decide (v=1∨v=2)
def zz (n:Nat):ByteArray:=txt (zeros n)
theorem zz_size (n:Nat):(zz n).size=n:=by unfold zz;rw [zah];unfold zeros;simp
theorem zi1 (n:Nat):Lib.repeatL [(0:UInt8)] n=zeros n:=by
 induction n with
 | zero=>rfl
 | succ n ih=>show 0 :: Lib.repeatL [(0:UInt8)] n=_;rw [ih];rfl
theorem zie (v:Int) (w:L):qf Y 195 #[C G v] w fun q w'=>q=qe (qj (knB v))∧w=w':=by
 by_cases h1:v=1
 ·subst h1;go_enter func195,ntmps195;go_wp2;go_ret;exact ⟨rfl,rfl⟩
 ·have e1:=zcw h1;have hk:Hid (knB v=(v==2)):=by show _=_;unfold knB;by_cases h:v=2<;>simp [h1,h]
  clear h1;go_enter func195,ntmps195;go_wp2;go_ret;exact ⟨by rw [hk.out];rfl,rfl⟩
theorem zbS (n:Nat) (w:L) (hn:n≤4611686018427387904):qf Y 196 #[C G n] w fun q w'=>q=qe (C G (((n+63) / 64:Nat):Int))∧w=w':=by
 go_enter func196,ntmps196;go_wp2;go_ret;exact ⟨by show qe (C G (((n:Int)+64-1) / 64))=_;congr 2;omega,rfl⟩
theorem zql (n:Nat) (w:L) (hn:n≤4611686018427387904):qf Y 175 #[C G n] w fun q w'=>q=qe (C G (((n+63) / 64*64:Nat):Int))∧w=w':=by
 go_enter func175,ntmps175;go_wp2;go_ret;exact ⟨by show qe (C G (((n:Int)+64-1) / 64*64))=_;congr 2;omega,rfl⟩
theorem zm6 (n:Nat):(⟨(Lib.repeatL (⟨#[0]⟩:ByteArray).data.toList n).toArray⟩:ByteArray)=zz n:=by
 show (⟨(Lib.repeatL [0] n).toArray⟩:ByteArray)=_;rw [zi1];rfl
theorem zen (n:Nat) (w:L) (hn:n≤140737488355328):qf Y 163 #[C G n] w fun q w'=>q=qe (qg (zz n))∧I w.heap.size w w':=by
 have h:=strings_Repeat ⟨#[0]⟩ n w (by omega) (by show 1*n≤_;omega);rw [zm6] at h;have H:=zh h;clear h;go_enter func163,ntmps163
 go_wp2_with (go_at_call 160;(with_reducible refine H.out.mono ?_);rintro q w' ⟨rfl,hb⟩)
 go_ret;exact ⟨rfl,hb⟩
def bgn (v:Int) (n:Nat):Nat:=if v=1 then (n+63) / 64*64 else n
theorem zm7 (v:Int) (n:Nat):n≤bgn v n:=by unfold bgn;split<;>omega
theorem zm8 (v:Int) (n:Nat):bgn v n≤n+63:=by unfold bgn;split<;>omega
theorem zfA (v:Int) (n:Nat) (w:L) (hn:n≤4611686018427387904):qf Y 141 #[C G v,C G n] w fun q w'=>q=qe (C G (bgn v n))∧w=w':=by
 by_cases h1:v=1
 ·subst h1;have hb:Hid (bgn 1 n=(n+63) / 64*64):=rfl;have hs:=zh (zbS n);go_enter func141,ntmps141
  go_wp2_with (go_at_call 196;(with_reducible refine (hs.out _ hn).mono ?_);rintro q w' ⟨rfl,rfl⟩)
  go_ret;exact ⟨by rw [hb.out];rfl,rfl⟩
 ·have e1:=zcw h1;have hb:Hid (bgn v n=n):=if_neg h1;clear h1;go_enter func141,ntmps141;go_wp2;go_ret;exact ⟨by rw [hb.out];rfl,rfl⟩
end
section
open Dk
def padv (v:Int) (s:ByteArray):ByteArray:=s++zz (bgn v s.size-s.size)
theorem zd3 (v:Int) (s:ByteArray):(padv v s).size=bgn v s.size:=by
 unfold padv;rw [ztS,zz_size]
 have:=zm7 v s.size
 omega
def rcA (v:Int) (S:En→ByteArray) (es:List En):ByteArray:=es.foldl (fun s e=>padv v (s++S e)) ⟨#[]⟩
theorem zeY (v:Int) (S:En→ByteArray) (es:List En) (e:En):rcA v S (es++[e])=padv v (rcA v S es++S e):=by
 unfold rcA;rw [List.foldl_append];rfl
theorem zfE (v:Int) (S:En→ByteArray) (M:Nat) (es:List En) (h:∀ e∈es,(S e).size≤M):(rcA v S es).size≤es.length*(M+63):=by
 have key:∀ (es:List En) (s:ByteArray),(∀ e∈es,(S e).size≤M)→(es.foldl (fun s e=>padv v (s++S e)) s).size≤s.size+es.length*(M+63):=by
  intro es;induction es with
  | nil=>intro s _;simp
  | cons a l ih =>
    intro s h;have h1:=ih (padv v (s++S a)) fun e he=>h e (ztK _ he);have h2:=h a (by simp);have h3:=zm8 v (s++S a).size;rw [zd3] at h1;rw [ztS] at h1 h3;rw [List.foldl_cons,zud,Nat.succ_mul];omega
 have:=key es ⟨#[]⟩ h
 have e:(⟨#[]⟩:ByteArray).size=0:=rfl;rw [e,zub] at this;exact this
theorem zbB {es:List En} {e:En} (h:es[k]?=d e):es.take (k+1)=es.take k++[e]:=by
 rw [List.take_add_one,h];rfl
theorem zcx.cs {es:List En} (h:zcx B A n es w) {e:En} (he:es[k]?=d e) :
 ∃ a,A=d a∧a.block<B∧w.cell? (a.add (k*11))=d (C qd e.term)∧w.cell? ⟨(a.add (k*11)).block,(a.add (k*11)).off+1,y⟩=d (C qd e.index)∧w.cell? ⟨(a.add (k*11)).block,(a.add (k*11)).off+2,y⟩=d (C G e.kind)
  ∧ w.cell? ⟨(a.add (k*11)).block,(a.add (k*11)).off+3,y⟩=d (C qd e.client)∧w.cell? ⟨(a.add (k*11)).block,(a.add (k*11)).off+4,y⟩=d (C qd e.seq)∧w.cell? ⟨(a.add (k*11)).block,(a.add (k*11)).off+5,y⟩=d (C qd e.block)
  ∧ w.cell? ⟨(a.add (k*11)).block,(a.add (k*11)).off+6,y⟩=d (C qd e.many)∧w.cell? ⟨(a.add (k*11)).block,(a.add (k*11)).off+7,y⟩=d (C G e.node)∧w.cell? ⟨(a.add (k*11)).block,(a.add (k*11)).off+8,y⟩=d (C G e.level)
  ∧ w.cell? ⟨(a.add (k*11)).block,(a.add (k*11)).off+9,y⟩=d (qg e.data)∧w.cell? ⟨(a.add (k*11)).block,(a.add (k*11)).off+10,y⟩=d (qg e.old):=by
 obtain ⟨a,hA,hB,hc⟩:=h.at_ k e he;exact ⟨a,hA,hB,hc 0 (by omega),hc 1 (by omega),hc 2 (by omega),hc 3 (by omega),hc 4 (by omega),hc 5 (by omega),hc 6 (by omega),hc 7 (by omega),hc 8 (by omega),hc 9 (by omega),hc 10 (by omega)⟩
def Sb (B b:Nat) (s:ByteArray) (w:L):Prop:=Lib.IsBuilder 151 5 B b (Lib.strCells s) w
theorem zeZ (B b:Nat) (x s:ByteArray) (w:L) (h:Sb B b x w) (hlen:x.size+s.size≤140737488355328) (hBw:B≤w.heap.size) :
 qf Y 182 #[qm (d ⟨b,0,y⟩),qg s] w fun e w'=>e=qe (qi #[C G s.size,.nilIface])∧Sb B b (x++s) w'∧I B w w':=by
 refine (Tryz.Builder_WriteString B b _ s w h (by rw [zuL];exact hlen) hBw).mono ?_;rintro e w' ⟨rfl,h1,h2⟩;refine ⟨rfl,.inr ?_,h2⟩;rw [←zb1];exact h1
theorem zpI (B b:Nat) (x:ByteArray) (w:L) (h:Sb B b x w) :
 qf Y 205 #[qm (d ⟨b,0,y⟩)] w fun e w'=>e=qe (C G x.size)∧w=w':=by
 refine (Tryz.Builder_Len B b _ w h).mono ?_;rintro e w' ⟨rfl,h1⟩;exact ⟨by rw [zuL],h1.symm⟩
theorem zhb (B b:Nat) (x:ByteArray) (w:L) (h:Sb B b x w) (hBw:B≤w.heap.size) :
 qf Y 94 #[qm (d ⟨b,0,y⟩)] w fun e w'=>e=qe (qg x)∧I B w w':=by
 have h1:=Tryz.Builder_String_any B b x.data.toList w (by rw [←show Lib.strCells x=qk x.data.toList from rfl];exact h) hBw;exact h1
theorem Sb.below (h:Sb B b s w) (hb:I w.heap.size w w'):Sb B b s w':=zfH h hb
def zs4 (F:FuncId) (v:Int) (S:En→ByteArray) (O:En→Bool) (es:List En):Prop :=
 ∀ e∈es,∀ W,qf Y F #[C G v,ev e] W fun q w'=>q=qe (qi #[qg (S e),qj (O e)])∧I W.heap.size W w'
def rcS (v:Int) (S:En→ByteArray) (O:En→Bool) (es:List En):ByteArray:=if knB v&&es.all O then rcA v S es else ⟨#[]⟩
def rcO (v:Int) (O:En→Bool) (es:List En):Bool:=knB v&&es.all O
theorem zfF (v:Int) (S:En→ByteArray) (O:En→Bool) (A:Option Addr) (n c:Nat) (es:List En) (w:L) (hE:zcx w.heap.size A n es w) (hn:n≤64)
 (hS:∀ e∈es,(S e).size≤2097152) (hP:zs4 204 v S O es) :
 qf Y 154 #[C G v,J A n c] w fun q w'=>q=qe (qi #[qg (rcS v S O es),qj (rcO v O es)])∧I w.heap.size w w':=by
 have HE:=zh hE;have HS:=zh hS;have HP:=zh hP;clear hE hS hP;have KK:=zh (zie v)
 cases hv:knB v with
 | false =>
   have hT1:Hid (rcS v S O es=⟨#[]⟩):=by show _=_;unfold rcS;rw [hv];rfl
   have hT2:Hid (rcO v O es=qc):=by show _=_;unfold rcO;rw [hv];rfl
   go_enter func154,ntmps154
   go_wp2_with (go_at_call 195;(with_reducible refine (KK.out _).mono ?_);rintro q w' ⟨rfl,rfl⟩)
   go_ret2;exact ⟨by rw [hT1.out,hT2.out];rfl,ql _ _⟩
 | true =>
   have hT1:Hid (rcS v S O es=if es.all O then rcA v S es else ⟨#[]⟩):=by show _=_;unfold rcS;rw [hv];rfl
   have hT2:Hid (rcO v O es=es.all O):=by show _=_;unfold rcO;rw [hv];rfl
   go_enter func154,ntmps154
   go_wp2_with (go_at_call 195;(with_reducible refine (KK.out _).mono ?_);rintro q w' ⟨rfl,rfl⟩)
   go_wp2;clear hv;obtain ⟨g,hg⟩:∃ g,g=w.heap.size:=⟨_,rfl⟩;have hb0:I w.heap.size w (w.alloc (D #[qm y,J y 0 0] 151)):=zba;have hs0:Sb g g ⟨#[]⟩ (w.alloc (D #[qm y,J y 0 0] 151)):=by rw [hg];exact Lib.fresh_isBuilder 151 5 w
   have HB0:=zh hb0;have HS0:=zh hs0;clear hb0 hs0;rw [←hg];have HG:=zh hg;clear hg
   go_loopw [16] (fun i wr=>∃ k:Nat,k≤n∧i=C G k∧Hid ((es.take k).all O=Z)∧Sb g g (rcA v S (es.take k)) wr∧I w.heap.size w wr) (fun i _=>n-(qh i).toNat)
   case atStart=>exact ⟨0,ztO _,rfl,rfl,HS0.out,HB0.out⟩
   case round =>
    obtain ⟨k,hk,rfl,hall,hsb,hb⟩:=hrel
    by_cases hlt:k<n
    ·obtain ⟨e,he⟩:∃ e,es[k]?=d e:=⟨_,zt2 (by rw [HE.out.len];exact hlt)⟩;obtain ⟨a,hA,hB,d0,d1,d2,d3,d4,d5,d6,d7,d8,d9,d10⟩:=(HE.out.below hb).cs he;have hmem:e∈es:=zuy he;have K:=zh (HP.out e hmem);have hsz:(S e).size≤2097152:=HS.out e hmem;have htk:=zbB he
     have hra:(rcA v S (es.take k)).size≤k*(2097152+63):=by
      have h1:=zfE v S 2097152 (es.take k) fun e he=>HS.out e (List.mem_of_mem_take he);rw [zt5] at h1;exact ztL h1 (zuI _ (Nat.min_le_left _ _))
     have hall1:Hid ((es.take (k+1)).all O=((es.take k).all O&&O e)):=by show _=_;rw [htk,List.all_append];simp
     have hrc1:Hid (rcA v S (es.take (k+1))=padv v (rcA v S (es.take k)++S e)):=by show _=_;rw [htk,zeY]
     obtain ⟨r,hr⟩:∃ r,r=rcA v S (es.take k):=⟨_,rfl⟩;rw [←hr] at hsb hra hrc1
     have hrs:r.size≤134217728:=by
      have:k*(2097152+63)≤63*(2097152+63):=zuI _ (by omega)
      omega
     have HSB:=zh hsb;have HB:=zh hb;have HEE:=zh he;clear hsb hb he hr hra htk hmem;rw [hA];clear hA
     cases ho:O e with
     | false =>
       have hF:Hid (es.all O=qc):=by
        show _=_;rw [List.all_eq_false];exact ⟨e,zuy HEE.out,by rw [ho];simp⟩
       rw [ho] at K
       go_wp2_with (go_at_call 204;(with_reducible refine (K.out _).mono ?_);rintro q w1 ⟨rfl,hb1⟩)
       go_ret2;exact ⟨by rw [hT1.out,hT2.out,hF.out];rfl,(HB.out.alloc HB.out.size _).trans (hb1.mono (HB.out.alloc HB.out.size _).size)⟩
     | true =>
       rw [ho] at K;have Q0:Sb g g r (wr.alloc (D (ec e) 69)):=HSB.out.below zba;have S0:w.heap.size≤(wr.alloc (D (ec e) 69)).heap.size:=(HB.out.alloc HB.out.size _).size;have B0:I w.heap.size w (wr.alloc (D (ec e) 69)):=HB.out.alloc HB.out.size _;have hgg:g≤w.heap.size:=by rw [HG.out];exact ztI _
       have hgb:∀ {w2 w3:L},I g w2 w3→I w.heap.size w2 w3:=by rw [HG.out];exact fun h=>h
       obtain ⟨R,hR⟩:∃ R,R=r++S e:=⟨_,rfl⟩;have hRs:R.size=r.size+(S e).size:=by rw [hR,ztS]
       rw [←hR] at hrc1;obtain ⟨m,hm⟩:∃ m,m=bgn v R.size-R.size:=⟨_,rfl⟩;have hm63:m≤63:=by have:=zm8 v R.size;omega
       have hmi:(bgn v R.size:Int)-(R.size:Int)=(m:Int):=by have:=zm7 v R.size;omega
       have hpad:Hid (R++zz m=rcA v S (es.take (k+1))):=by show _=_;rw [hrc1.out,hm];rfl
       have hlz:R.size+(zz m).size≤140737488355328:=by rw [zz_size];omega
       have hlr:r.size+(S e).size≤140737488355328:=by omega
       have hlm:R.size≤4611686018427387904:=by omega
       have hmz:m≤140737488355328:=by omega
       have hmax:bgn v R.size≤4611686018427387904:=by have:=zm8 v R.size;omega
       have HR:=zh hR;clear hm hR hRs
       go_wp2_with (first
        | (go_at_call 204;(with_reducible refine (K.out _).mono ?_);rintro q w1 ⟨rfl,hb1⟩;have Q1:=Q0.below hb1;have B1:=B0.trans (hb1.mono S0);have hg1:g≤w1.heap.size:=ztL hgg B1.size;clear Q0 hb1)
        | (go_at_call 182;(with_reducible refine (zeZ g g r (S e) w1 Q1 hlr hg1).mono ?_);rintro q w2 ⟨rfl,Q2,hb2⟩;rw [←HR.out] at Q2;have B2:=B1.trans (hgb hb2);clear Q1 hb2)
        | (go_at_call 205;(with_reducible refine (zpI g g R w2 Q2).mono ?_);rintro q w3 ⟨rfl,rfl⟩)
        | (go_at_call 141;(with_reducible refine (zfA v _ w2 hlm).mono ?_);rintro q w3 ⟨rfl,rfl⟩)
        | (go_at_call 163;(with_reducible refine (zen m w2 hmz).mono ?_);rintro q w4 ⟨rfl,hb4⟩;have Q4:=Q2.below hb4;have B4:=B2.trans (hb4.mono B2.size);have hg4:g≤w4.heap.size:=ztL hgg B4.size)
        | (go_at_call 182;(with_reducible refine (zeZ g g R (zz m) w4 Q4 hlz hg4).mono ?_);rintro q w5 ⟨rfl,Q5,hb5⟩;have B5:=B4.trans (hgb hb5)))
       go_roundw
       case rel=>exact ⟨k+1,by omega,by go_num,by show _=_;rw [hall1.out,hall.out,ho];rfl,by rw [←hpad.out];exact Q5,B5⟩
       case measure=>simp [qh];omega
    ·have hF:es.take k=es:=zt9 (by rw [HE.out.len];omega);rw [hF] at hall hsb;have K:=zh (zhb g g _ wr hsb (by rw [HG.out];exact hb.size));have HALL:=zh hall.out;have HB:=zh hb;clear hall hsb hb hF
     go_wp2_with (go_at_call 94;(with_reducible refine K.out.mono ?_);rintro q w1 ⟨rfl,hb1⟩)
     go_ret2;exact ⟨by rw [hT1.out,hT2.out,HALL.out];rfl,HB.out.trans (by rw [←HG.out];exact hb1)⟩
end
section
open Dk
theorem zjZ (w:L) (m:Nat) (hm:m≤140737488355328):(Instr.makeSlice 78 (C G m) (C G m)).run Y w=.ok (J (d ⟨w.heap.size,0,y⟩) m m) (w.alloc (D (qk (zeros m)).toArray 5)):=by
 obtain ⟨i0,hi0,hz0,hz1,hz2⟩:=info_parts info5;have h1:=run_make (P:=Y) w 78 5 i0 (C .u8 0) underlying78 hi0 hz0 G G m m (by omega) (by omega) (by rw [hz2];omega) (by omega)
 have e:madeCells (C .u8 0).cells ((m:Int).toNat*i0.size)=(qk (Dk.zeros m)).toArray:=by
  rw [hz1];apply Array.ext';have h2:=toList_madeCells_one (C .u8 0) m;have h3:((m:Int).toNat*1)=m:=by omega
  rw [h3];show (madeCells #[C IntKind.u8 0] m).toList=_;rw [h2];simp [qk,Dk.zeros]
 rw [e] at h1;exact h1
theorem zj0 (w:L) (g m:Nat) (h:w.heap[g]?=d (D (qk (zeros m)).toArray 5 (0,0))):(convert 78 9 (J (d ⟨g,0,y⟩) m m)).run Y w=.ok (qg (zz m)) w:=by
 refine zd5 (by simp [Dk.zeros]) (fun j u hu=>?_);rw [zcr _ _ _ _ 5 (0,0) h,zub]
 simpa using hu
theorem zc0 (v:Int) (S:En→ByteArray) (O:En→Bool) (A:Option Addr) (n c:Nat) (es:List En) (w:L) (hE:zcx w.heap.size A n es w) (hn:n≤64)
 (hS:∀ e∈es,(S e).size≤2097152) (hP:zs4 174 v S O es) :
 qf Y 115 #[C G v,J A n c] w fun q w'=>q=qe (qi #[qg (rcS v S O es),qj (rcO v O es)])∧I w.heap.size w w':=by
 have HE:=zh hE;have HS:=zh hS;have HP:=zh hP;clear hE hS hP
 by_cases hvn:v≠1∧v≠2
 ·have hk:knB v=qc:=ztM (by omega);have hT1:Hid (rcS v S O es=⟨#[]⟩):=by show _=_;unfold rcS;rw [hk];rfl
  have hT2:Hid (rcO v O es=qc):=by show _=_;unfold rcO;rw [hk];rfl
  have h1:(v==1)=qc:=zcw (by omega);have h2:(v==2)=qc:=zcw (by omega);have g1:(v != 1)=Z:=by unfold bne;rw [h1];rfl
  have g2:(v != 2)=Z:=by unfold bne;rw [h2];rfl
  clear hvn hk;go_enter func115,ntmps115;go_wp2;go_ret2;exact ⟨by rw [hT1.out,hT2.out];rfl,ql _ _⟩
 ·have hv:v=1∨v=2:=by omega
  clear hvn;have hk:knB v=Z:=ztN hv;have hT1:Hid (rcS v S O es=if es.all O then rcA v S es else ⟨#[]⟩):=by show _=_;unfold rcS;rw [hk];rfl
  have hT2:Hid (rcO v O es=es.all O):=by show _=_;unfold rcO;rw [hk];rfl
  clear hk;have hB0:=ql w.heap.size w;go_enter func115,ntmps115;obtain ⟨V,hV⟩:∃ V,V=v:=⟨_,rfl⟩;rw [←hV] at hT1 hT2;have HV:=zh hV;rcases hv with rfl|rfl
  all_goals
   clear hV;go_wp2
   go_loopw [6,7] (fun s i wr=>∃ k:Nat,k≤n∧i=C G k∧Hid ((es.take k).all O=Z)∧(∃ r,s=qg r∧Hid (rcA V S (es.take k)=r))∧I w.heap.size w wr) (fun _ i _=>n-(qh i).toNat)
   case atStart=>exact ⟨0,ztO _,rfl,rfl,⟨_,rfl,rfl⟩,hB0⟩
   case round =>
    obtain ⟨k,hk,rfl,hall,⟨r,rfl,hrr⟩,hb⟩:=hrel
    by_cases hlt:k<n
    ·obtain ⟨e,he⟩:∃ e,es[k]?=d e:=⟨_,zt2 (by rw [HE.out.len];exact hlt)⟩;obtain ⟨a,hA,hB,d0,d1,d2,d3,d4,d5,d6,d7,d8,d9,d10⟩:=(HE.out.below hb).cs he;have hmem:e∈es:=zuy he;have K:=zh (HP.out e hmem);have hsz:(S e).size≤2097152:=HS.out e hmem;have htk:=zbB he
     have hra:r.size≤k*(2097152+63):=by
      rw [←hrr.out];refine ztL (zfE _ S 2097152 (es.take k) fun e he=>HS.out e (List.mem_of_mem_take he)) ?_;rw [zt5];exact zuI _ (Nat.min_le_left _ _)
     have hall1:Hid ((es.take (k+1)).all O=((es.take k).all O&&O e)):=by show _=_;rw [htk,List.all_append];simp
     have hrc1:∀ v,rcA v S (es.take k)=r→Hid (padv v (r++S e)=rcA v S (es.take (k+1))):=fun v hr=>by show _=_;rw [htk,zeY,hr]
     have hrc:=hrc1 _ hrr.out
     have hrs:r.size≤134217728:=by
      have:k*(2097152+63)≤63*(2097152+63):=zuI _ (by omega)
      omega
     have HB:=zh hb;have HEE:=zh he;clear hb he hrr hra htk hmem hrc1;rw [hA];clear hA
     cases ho:O e with
     | false =>
       have hF:Hid (es.all O=qc):=by
        show _=_;rw [List.all_eq_false];exact ⟨e,zuy HEE.out,by rw [ho];simp⟩
       rw [ho] at K
       go_wp2_with (go_at_call 174;(with_reducible refine (K.out _).mono ?_);rintro q w1 ⟨rfl,hb1⟩)
       go_ret2;exact ⟨by rw [←HV.out,hT1.out,hT2.out,hF.out];rfl,HB.out.trans (hb1.mono HB.out.size)⟩
     | true =>
       rw [ho] at K;obtain ⟨R,hR⟩:∃ R,R=r++S e:=⟨_,rfl⟩;have hRs:R.size=r.size+(S e).size:=by rw [hR,ztS]
       rw [←hR] at hrc;have hlr:¬ 9223372036854775807<r.size+(S e).size:=by omega
       have hRl:R.size≤140737488355000:=by omega
       have HR:=zh hR;clear hR hRs
       go_upto_region 11 with (go_at_call 174;(with_reducible refine (K.out _).mono ?_);rintro q w1 ⟨rfl,hb1⟩)
       rw [←HR.out];have B1:=HB.out.trans (hb1.mono HB.out.size);clear hb1
       first
        | (have e1:V=1:=HV.out
           have KU:=zh (zql R.size);have hlm:R.size≤4611686018427387904:=by omega
           obtain ⟨U,hU⟩:∃ U,U=(R.size+63) / 64*64:=⟨_,rfl⟩;rw [←hU] at KU;obtain ⟨m,hm⟩:∃ m,m=U-R.size:=⟨_,rfl⟩;have hmi:(U:Int)-(R.size:Int)=(m:Int):=by omega
           have hm63:m≤63:=by omega
           have hmax:U≤4611686018427387904:=by omega
           have hmk:=zjZ w1 m (by omega);have hcv:=zj0 (w1.alloc (D (qk (zeros m)).toArray 5)) w1.heap.size m (ztJ w1 _);have hpd:Hid (R++zz m=rcA V S (es.take (k+1))):=by show _=_;rw [←hrc.out,e1,hm,hU];rfl
           have hls:¬ 9223372036854775807<R.size+(zz m).size:=by rw [zz_size];omega
           have B2:=B1.alloc B1.size (D (qk (zeros m)).toArray 5);obtain ⟨M,hM⟩:∃ M,M=(qk (zeros m)).toArray:=⟨_,rfl⟩;rw [←hM] at hmk hcv B2;clear e1 hU hm hM
           go_wp2_with (go_at_call 175;(with_reducible refine (KU.out _ hlm).mono ?_);rintro q w2 ⟨rfl,rfl⟩)
           go_roundw
           case rel=>exact ⟨k+1,by omega,by go_num,by show _=_;rw [hall1.out,hall.out,ho];rfl,⟨_,rfl,hpd.symm⟩,B2⟩
           case measure=>simp [qh];omega)
        | (have hpd:Hid (rcA V S (es.take (k+1))=R):=by
            show _=_;rw [←hrc.out,HV.out];unfold padv
            have:bgn 2 R.size-R.size=0:=by unfold bgn;rw [if_neg (by decide)];omega
            rw [this];apply ByteArray.ext;simp [zz,Dk.zeros,txt,zup]
           go_wp2
           go_roundw
           case rel=>exact ⟨k+1,by omega,by go_num,by show _=_;rw [hall1.out,hall.out,ho];rfl,⟨_,rfl,hpd⟩,B1⟩
           case measure=>simp [qh];omega)
    ·have hF:es.take k=es:=zt9 (by rw [HE.out.len];omega);rw [hF] at hall hrr;go_wp2;go_ret2;exact ⟨by rw [←HV.out,hT1.out,hT2.out,hall.out,hrr.out];rfl,hb⟩
end
section
open Dk Vi
def zrH (F:FuncId) (X:ByteArray→En) (V:ByteArray→Int) (O:ByteArray→Bool):Prop :=
 ∀ s W,s.size≤140737488351232→qf Y F #[qg s] W fun q w'=>q=qe (qi #[ev (X s),C G (V s),qj (O s)])∧I W.heap.size W w'
def frm (t:ByteArray):ByteArray:=t.extract 0 (nxN t).toNat
def frB (O:ByteArray→Bool) (v:Int) (t:ByteArray):Bool:=nOk t&&(decide (nxV t=v)&&O (frm t))
def tlB (s:ByteArray) (p:Nat):ByteArray:=s.extract p s.size
def zih (v:Int) (s:ByteArray) (p:Nat):Nat:=min (bgn v (p+(nxN (tlB s p)).toNat)) s.size
def pl (X:ByteArray→En) (O:ByteArray→Bool) (v:Int) (s:ByteArray):Nat→Nat→List (En×Nat)
 | 0,_=>[]
 | f+1,p=>if frB O v (tlB s p) then (X (frm (tlB s p)),zih v s p) :: pl X O v s f (zih v s p) else []
def lpP (l:List (En×Nat)):Nat:=(l.getLast?.map Prod.snd).getD 0
theorem zjY (l:List (En×Nat)) (x:En×Nat):lpP (l++[x])=x.2:=by unfold lpP;simp
def zf3 (X:ByteArray→En) (O:ByteArray→Bool) (v:Int) (s:ByteArray):List (En×Nat):=pl X O v s (s.size+1) 0
def zla (X:ByteArray→En) (O:ByteArray→Bool) (v:Int) (s:ByteArray):List En:=(zf3 X O v s).map Prod.fst
def znp (X:ByteArray→En) (O:ByteArray→Bool) (v:Int) (s:ByteArray):Nat:=lpP (zf3 X O v s)
theorem zeX (s:ByteArray) (p:Nat) (hp:p≤s.size):(tlB s p).size=s.size-p:=by unfold tlB;rw [zue];omega
theorem zfD (h:nOk t=Z):0<(nxN t).toNat∧((nxN t).toNat:Int)=nxN t∧(nxN t).toNat≤t.size:=by
 obtain ⟨_,e2,e3⟩:=ze8 h;have h2:=zlu h
 have h3:0<(pack (nV t) (nBd t)).size:=by
  unfold pack;rw [ztS,ztS,zbh];omega
 have h4:=(ze7 h).2.1
 have h5:t.size=(pack (nV t) (nBd t)).size+(nW t).size:=by
  have:=congrArg ByteArray.size h4
  rw [ztS] at this;exact this
 omega
theorem znq (h:t.size=0):nOk t=qc:=by
 cases hk:nOk t with
 | false=>rfl
 | true=>have:=zfD hk;omega
theorem znr {p:Nat} (hp:p≤s.size) (h:nOk (tlB s p)=Z):p<zih v s p∧zih v s p≤s.size:=by
 obtain ⟨h1,_,h3⟩:=zfD h;rw [zeX s p hp] at h3;have h4:=zm7 v (p+(nxN (tlB s p)).toNat);unfold zih;omega
theorem zsT {O:ByteArray→Bool} (h:frB O v t=Z):nOk t=Z:=by
 unfold frB at h;rw [ztZ] at h;exact h.1
structure Le (B:Nat) (A:Option Addr) (n c:Nat) (es:List En) (w:L):Prop where
 own:w.ownsRow B 69 11 (J A n c) n (flat es)
 len:es.length=n
theorem Le.nil (B:Nat) (w:L):Le B y 0 0 [] w:=⟨zuF w B 69 11,rfl⟩
theorem Le.below {es:List En} (h:Le B A n c es w) (hb:I w.heap.size w w'):Le B A n c es w' :=
 ⟨zcy h.own fun k hk=>hb.block k (h.own.lt k hk).2,h.len⟩
theorem Le.ents {es:List En} (h:Le B A n c es w):zcx w.heap.size A n es w:=ziA h.own h.len
theorem info69:(prog.info? 69).map (fun i=>(i.zero,i.size,i.bytes))=d (d (ev ezz),11,104):=by kernel_rfl
theorem zaQ {ops:Array Oper} {rest:List Oper} {o:Oper} {a:Act} {Q:Exit→Act→L→Prop} (hgd:o.guard=y) (s x:Operand)
 (ho:o.op=.call { callee:=.builtin .append,args:=#[s,x],argTypes:=#[54,54] }) (w:L) (B:Nat) (A:Option Addr) (n c g0:Nat) (es:List En) (e:En)
 (hs:a.eval s=J A n c) (hx:a.eval x=J (d ⟨g0,0,y⟩) 1 1) (hL:Le B A n c es w) (hel:w.heap[g0]?=d (D (ec e) 69 (0,0))) (hn:n≤1000000000000) (hB:B≤w.heap.size)
 (h:∀ g cap w',Le B (d ⟨g,0,y⟩) (n+1) cap (es++[e]) w'→I B w w'→(∀ k,k<w.heap.size→qn (J A n c)≠d k→w'.heap[k]?=w.heap[k]?)→wpList Y ops Q rest (a.put o.dst (J (d ⟨g,0,y⟩) (n+1) cap)) w'):wpList Y ops Q (o :: rest) a w:=by
 obtain ⟨i0,hi,hz0,hz1,hz2⟩:=info_parts info69;refine wpList_append_lies w hgd s x 54 ho B 69 i0 (ev ezz) 11 104 underlying54 hi hz0 hz1 hz2 rfl (by omega) (J A n c) n (flat es) hs hL.own ⟨g0,0,y⟩ 1 1 (ec e).toList hx rfl (World.news_of_block hel) (fun u hu=>by simp at hu;rcases hu with rfl|rfl|rfl|rfl|rfl|rfl|rfl|rfl|rfl|rfl|rfl<;>rfl) (by omega) (by unfold maxLen;omega) (by omega) hB _ rfl ?_;intro g cap w' hown hgrow hat hlt;refine h g cap w' ⟨by rw [zdH];exact hown,by rw [zt4,hL.len];rfl⟩ ((ql B w).grown hgrow hB (fun k hk=>(hL.own.lt k hk).1)) (fun k hk hne=>hgrow.block k hk fun e=>hne e.symm)
theorem zkV (X:ByteArray→En) (V:ByteArray→Int) (O:ByteArray→Bool) (v:Int) (s:ByteArray) (w:L) (hs:s.size≤1000000000000) (hG:(∃ k,nOk (tlB s k)=Z)→zrH 194 X V O)
 (hV:∀ t,nOk t=Z→O (frm t)=Z→V (frm t)=nxV t) (hv0:-9223372036854775808≤v) :
 qf Y 131 #[C G v,qg s] w fun q w'=>∃ A n c,q=qe (qi #[J A n c,C G (znp X O v s)])∧Le w.heap.size A n c (zla X O v s) w'∧I w.heap.size w w':=by
 have HG:=zh hG;have HV:=zh hV;clear hG hV;have hB0:=ql w.heap.size w;have KN:=zh zfb;have KU:=zh zql;go_enter func131,ntmps131;go_wp2
 go_loopw [6,7] (fun l p wr=>∃ (A:Option Addr) (n c k f:Nat) (pre:List (En×Nat)),l=J A n c∧p=C G k∧k≤s.size∧s.size<f+k∧n≤k∧Hid (pre++pl X O v s f k=zf3 X O v s)∧Hid (lpP pre=k)∧Le w.heap.size A n c (pre.map Prod.fst) wr∧I w.heap.size w wr) (fun _ p _=>s.size-(qh p).toNat)
 case atStart=>exact ⟨y,0,0,0,s.size+1,[],rfl,rfl,ztO _,by omega,ztI _,rfl,rfl,Le.nil _ _,hB0⟩
 case round =>
  obtain ⟨A,n,c,k,f,pre,rfl,rfl,hk,hf,hnk,hpl,hlp,hL,hb⟩:=hrel;obtain ⟨f,rfl⟩:∃ f',f=f'+1:=⟨f-1,by omega⟩;have hpf:Hid (pl X O v s (f+1) k=if frB O v (tlB s k) then (X (frm (tlB s k)),zih v s k) :: pl X O v s f (zih v s k) else []):=rfl
  have hstop:frB O v (tlB s k)=qc→Hid (zla X O v s=pre.map Prod.fst∧znp X O v s=k):=fun h=>by
   have h1:=hpf.out;rw [h,if_neg (by decide)] at h1;have h2:=hpl.out;rw [h1,zuG] at h2;show _∧_;unfold zla znp;rw [←h2];exact ⟨rfl,hlp.out⟩
  by_cases hlt:k<s.size
  ·obtain ⟨t,ht⟩:∃ t,t=tlB s k:=⟨_,rfl⟩;have hts:t.size=s.size-k:=by rw [ht];exact zeX s k hk
   rw [←ht] at hstop hpf;have hext:s.extract k s.size=t:=ht.symm;have HL:=zh hL;have HB:=zh hb;have htb:t.size≤281474976710656:=by omega
   clear hL hb
   cases hk1:nOk t with
   | false =>
     have hst:=hstop (by unfold frB;rw [hk1,zun]);have K:=zh (KN.out t wr htb);rw [hk1] at K;clear hstop hpf hpl hlp ht hk1
     go_wp2_with (go_at_call 192;(with_reducible refine K.out.mono ?_);rintro q w1 ⟨rfl,hb1⟩)
     go_ret2;exact ⟨A,n,c,by rw [hst.out.2];rfl,by rw [hst.out.1];exact HL.out.below hb1,HB.out.trans (hb1.mono HB.out.size)⟩
   | true =>
     have HG:=zh (HG.out ⟨k,by rw [←ht];exact hk1⟩);obtain ⟨hp1,hp2,hp3⟩:=zfD hk1;have hlt2:=(znr (v:=v) hk (by rw [←ht];exact hk1));have hnx:zih v s k=min (bgn v (k+(nxN t).toNat)) s.size:=by unfold zih;rw [←ht]
     have hfm:frm t=s.extract k (k+(nxN t).toNat):=by
      have h1:=ByteArray.extract_extract (a:=s) (i:=k) (j:=s.size) (k:=0) (l:=(nxN t).toNat);rw [Nat.add_zero,Nat.min_eq_left (by omega)] at h1;unfold frm;rw [←h1,hext]
     obtain ⟨N,hN⟩:∃ N,N=(nxN t).toNat:=⟨_,rfl⟩;rw [←hN] at hp1 hp2 hp3 hnx hfm;have K:=zh (KN.out t wr htb);rw [hk1,←hp2] at K;obtain ⟨T,hT⟩:∃ T,T=frm t:=⟨_,rfl⟩;have hTs:T.size≤140737488351232:=by rw [hT,hfm,zue];omega
     have hcut:s.extract k (k+N)=T:=by rw [hT,hfm]
     have KG:=zh (fun (W:L)=>HG.out T W hTs);have hVT:O T=Z→V T=nxV t:=by rw [hT];exact HV.out t hk1
     have hfrB:frB O v t=(decide (nxV t=v)&&O T):=by unfold frB;rw [hk1,zt8,←hT]
     rw [←hT] at hpf;obtain ⟨x,hx⟩:∃ x,x=nxV t:=⟨_,rfl⟩;rw [←hx] at K hVT hfrB;obtain ⟨E,hE⟩:∃ E,E=X T:=⟨_,rfl⟩;rw [←hE] at KG hpf;have e1:((k:Int)+(N:Int)).toNat=k+N:=by omega
     have hkN:¬ (s.size:Int)<(k:Int)+N:=by omega
     clear hN hfm hT hE hx hp2
     cases hO:O T with
     | false =>
       rw [hO] at KG hfrB;have hst:=hstop (by rw [hfrB,Bool.and_false]);clear hstop hpf hpl hlp ht hk1 hfrB hVT hlt2 hnx
       go_wp2_with (first
        | (go_at_call 192;(with_reducible refine K.out.mono ?_);rintro q w1 ⟨rfl,hb1⟩)
        | (go_at_call 194;(with_reducible refine (KG.out _).mono ?_);rintro q w2 ⟨rfl,hb2⟩))
       go_ret2;have hbb:=hb1.trans (hb2.mono hb1.size);exact ⟨A,n,c,by rw [hst.out.2];rfl,by rw [hst.out.1];exact HL.out.below (hbb.alloc hbb.size _),(HB.out.trans (hbb.mono HB.out.size)).alloc (ztL HB.out.size hbb.size) _⟩
     | true =>
       rw [hO] at KG hfrB;have hvx:=hVT hO;rw [hvx] at KG
       cases hd:decide (x=v) with
       | false =>
         rw [hd] at hfrB;have hst:=hstop hfrB;have hxv:(x==v)=qc:=zcw (of_decide_eq_false hd);have hxv2:(x != v)=Z:=by unfold bne;rw [hxv];rfl
         clear hstop hpf hpl hlp ht hk1 hfrB hVT hlt2 hnx hd hvx
         go_wp2_with (first
          | (go_at_call 192;(with_reducible refine K.out.mono ?_);rintro q w1 ⟨rfl,hb1⟩)
          | (go_at_call 194;(with_reducible refine (KG.out _).mono ?_);rintro q w2 ⟨rfl,hb2⟩))
         go_ret2;have hbb:=hb1.trans (hb2.mono hb1.size);exact ⟨A,n,c,by rw [hst.out.2];rfl,by rw [hst.out.1];exact HL.out.below (hbb.alloc hbb.size _),(HB.out.trans (hbb.mono HB.out.size)).alloc (ztL HB.out.size hbb.size) _⟩
       | true =>
         have hxv:x=v:=of_decide_eq_true hd;rw [hd] at hfrB;have hpf2:=hpf.out;rw [hfrB,if_pos (by decide)] at hpf2
         have hnext:Hid ((pre++[(E,zih v s k)])++pl X O v s f (zih v s k)=zf3 X O v s):=by
          show _=_;rw [zuc,List.singleton_append,←hpf2];exact hpl.out
         subst hxv;clear hstop hpf hpl hlp ht hk1 hfrB hVT hd hvx hpf2;obtain ⟨P,hP⟩:∃ P,P=zih x s k:=⟨_,rfl⟩;rw [←hP] at hnx hnext hlt2
         have hfin:∀ (g cap:Nat) (wz:L),Le w.heap.size (d ⟨g,0,y⟩) (n+1) cap (pre.map Prod.fst++[E]) wz→I w.heap.size w wz →
          ∃ (A:Option Addr) (n' c k' f:Nat) (pre:List (En×Nat)),(Value.slice (d ⟨g,0,y⟩) (n+1) cap)=J A n' c∧(C G P)=C G k'∧k'≤s.size∧s.size<f+k'∧n'≤k'∧Hid (pre++pl X O x s f k'=zf3 X O x s)∧Hid (lpP pre=k')∧Le w.heap.size A n' c (pre.map Prod.fst) wz∧I w.heap.size w wz:=fun g cap wz h1 h2 =>
          ⟨_,n+1,cap,P,f,_,rfl,rfl,by omega,by omega,by omega,hnext,by show _=_;rw [zjY],by rw [List.map_append];exact h1,h2⟩
         have HF:=zh hfin;clear hfin hnext hP
         go_upto_region 10 with (first
          | (go_at_call 192;(with_reducible refine K.out.mono ?_);rintro q w1 ⟨rfl,hb1⟩)
          | (go_at_call 194;(with_reducible refine (KG.out _).mono ?_);rintro q w2 ⟨rfl,hb2⟩))
         have hbb:=hb1.trans (hb2.mono hb1.size);have B2:I w.heap.size w (w2.alloc (D (ec E) 69)):=(HB.out.trans (hbb.mono HB.out.size)).alloc (ztL HB.out.size hbb.size) _;have B3:=B2.alloc B2.size (D (ec E) 69);have L3:=(HL.out.below (hbb.alloc hbb.size (D (ec E) 69))).below ((ql _ _).alloc (ztI _) (D (ec E) 69))
         have hel:((w2.alloc (D (ec E) 69)).alloc (D (ec E) 69)).heap[w2.heap.size+1]?=d (D (ec E) 69 (0,0)):=by
          have h:=ztJ (w2.alloc (D (ec E) 69)) (D (ec E) 69);rw [show (w2.alloc (D (ec E) 69)).heap.size=w2.heap.size+1 by simp] at h;exact h
         have hnb:n≤1000000000000:=by omega
         have HB3:=zh B3;have HL3:=zh L3;have HEL:=zh hel;have hkN2:(k:Int)+N≤s.size:=by omega
         clear hbb B2 B3 L3 hel hb1 hb2 K KG
         by_cases h1:x=1
         ·subst h1;obtain ⟨U,hU⟩:∃ U,U=(k+N+63) / 64*64:=⟨_,rfl⟩
          have hPm:Hid ((min (U:Int) (s.size:Int))=(P:Int)):=by
           show _=_;rw [hnx];unfold bgn;rw [if_pos rfl,←hU];omega
          have K43:=KU.out (k+N);rw [←hU] at K43;have hU2:(k+N)≤4611686018427387904:=by omega
          have ekN:((k+N:Nat):Int)=(k:Int)+N:=by omega
          rw [ekN] at K43;have HK:=zh (fun W=>K43 W hU2);clear K43 hU hnx ekN
          go_wp2_with (first
           | (at_builtin;refine zaQ rfl _ _ rfl _ w.heap.size A n c (w2.heap.size+1) (pre.map Prod.fst) E rfl rfl HL3.out HEL.out (by omega) HB3.out.size ?_;intro g cap w4 hL4 hb4 hk4)
           | (go_at_call 175;(with_reducible refine (HK.out _).mono ?_);rintro q w5 ⟨rfl,rfl⟩))
          rw [hPm.out];exact ⟨HF.out g cap w4 hL4 (HB3.out.trans hb4),by simp [qh];omega⟩
         ·have hx1:(x==1)=qc:=zcw h1
          have hPm:Hid ((k:Int)+N=(P:Int)):=by
           show _=_;rw [hnx];unfold bgn;rw [if_neg h1];omega
          clear h1 hnx
          go_wp2_with (first
           | (at_builtin;refine zaQ rfl _ _ rfl _ w.heap.size A n c (w2.heap.size+1) (pre.map Prod.fst) E rfl rfl HL3.out HEL.out (by omega) HB3.out.size ?_;intro g cap w4 hL4 hb4 hk4))
          rw [hPm.out];exact ⟨HF.out g cap w4 hL4 (HB3.out.trans hb4),by simp [qh];omega⟩
  ·have hfr:frB O v (tlB s k)=qc:=by
    have:(tlB s k).size=0:=by rw [zeX s k hk];omega
    unfold frB;rw [znq this,zun]
   have hst:=hstop hfr;have HL:=zh hL;have HB:=zh hb;clear hstop hfr hpf hpl hlp hL hb;go_wp2;go_ret2;exact ⟨A,n,c,by rw [hst.out.2];rfl,by rw [hst.out.1];exact HL.out,HB.out⟩
end
section
open Dk Vi
theorem ecz {e:En} (h:w.heap[b]?=d (D (ec e) 69 (0,0))):w.cell? ⟨b,0,y⟩=d (C qd e.term)∧w.cell? ⟨b,1,y⟩=d (C qd e.index)∧w.cell? ⟨b,2,y⟩=d (C G e.kind)∧w.cell? ⟨b,3,y⟩=d (C qd e.client)∧w.cell? ⟨b,4,y⟩=d (C qd e.seq)∧w.cell? ⟨b,5,y⟩=d (C qd e.block)∧w.cell? ⟨b,6,y⟩=d (C qd e.many)∧w.cell? ⟨b,7,y⟩=d (C G e.node)∧w.cell? ⟨b,8,y⟩=d (C G e.level)∧w.cell? ⟨b,9,y⟩=d (qg e.data)∧w.cell? ⟨b,10,y⟩=d (qg e.old) :=
 ⟨zcr w b 0 _ 69 (0,0) h,zcr w b 1 _ 69 (0,0) h,zcr w b 2 _ 69 (0,0) h,zcr w b 3 _ 69 (0,0) h,zcr w b 4 _ 69 (0,0) h,zcr w b 5 _ 69 (0,0) h,zcr w b 6 _ 69 (0,0) h,zcr w b 7 _ 69 (0,0) h,zcr w b 8 _ 69 (0,0) h,zcr w b 9 _ 69 (0,0) h,zcr w b 10 _ 69 (0,0) h⟩
theorem znf (X:ByteArray→En) (V:ByteArray→Int) (O:ByteArray→Bool) (v:Int) (t:ByteArray) (w:L) (hs:t.size≤140737488351232) (hG:nOk t=Z→zrH 293 X V O) :
 qf Y 272 #[C G v,qg t] w fun q w'=>∃ E z,q=qe (qi #[ev E,C G z,qj (frB O v t)])∧(frB O v t=Z→E=X (frm t)∧z=nxN t)∧I w.heap.size w w':=by
 have HG:=zh hG;clear hG;obtain ⟨x,hx⟩:∃ x,x=nxV t:=⟨_,rfl⟩;obtain ⟨N,hN⟩:∃ N,N=nxN t:=⟨_,rfl⟩;obtain ⟨b,hb⟩:∃ b,b=nOk t:=⟨_,rfl⟩
 have hNt:b=Z→(N.toNat:Int)=N∧N.toNat≤t.size:=fun h=>by
  have:=zfD (hb.symm.trans h)
  rw [hN];exact ⟨this.2.1,this.2.2⟩
 have hfm:frm t=t.extract 0 N.toNat:=by rw [hN];rfl
 have K:=zh (zeJ t (w.alloc (D (ec ezz) 69)) (by omega));rw [←hx,←hN,←hb] at K;have hfr:frB O v t=(b&&(decide (x=v)&&O (frm t))):=by rw [hb,hx];rfl
 obtain ⟨fr,hfq⟩:∃ fr,fr=frB O v t:=⟨_,rfl⟩;rw [←hfq] at hfr ⊢
 cases b with
 | false =>
   rw [zun] at hfr;subst hfr;clear hx hN hb hfq hNt hfm;go_enter func272,ntmps272
   go_wp2_with (go_at_call 222;(with_reducible refine K.out.mono ?_);rintro q w1 ⟨rfl,b1⟩;have HK1:Hid (w1.heap[w.heap.size]?=d (D (ec ezz) 69 (0,0))):=(b1.block _ (by simp)).trans (ztJ w _);have HB1:Hid (I w.heap.size w w1):=zba.trans (b1.mono (by simp));obtain ⟨z0,z1,z2,z3,z4,z5,z6,z7,z8,z9,z10⟩:=ecz HK1.out;have fz:∀ i,w1.frozen? ⟨w.heap.size,i,y⟩=qc:=fun i=>zt6 HK1.out i;clear b1)
   obtain ⟨W3,hW3⟩:∃ W3,W3=wz w1 w.heap.size ezz:=⟨_,rfl⟩;have HK_:Hid (W3.heap[w.heap.size]?=d (D (ec ezz) 69 (0,0))):=by show _=_;rw [hW3];exact zbP ezz HK1.out
   have HBF:Hid (I w.heap.size w W3):=by rw [hW3];exact zbU ezz HB1.out (ztI _)
   change bodyPost Y f272 _ Exit.ret _ (wz w1 w.heap.size ezz);rw [←hW3];obtain ⟨f0,f1,f2,f3,f4,f5,f6,f7,f8,f9,f10⟩:=ecz HK_.out;exact ztP (v:=qi #[ev ezz,C G 0,qj qc]) (by simp [results,results272,go_sem,f0,f1,f2,f3,f4,f5,f6,f7,f8,f9,f10]) rfl ⟨ezz,0,rfl,(fun h=>by cases h),HBF.out⟩
 | true =>
   have HG:=zh (HG.out hb.symm);obtain ⟨hn1,hn2⟩:=hNt rfl;obtain ⟨n,hn⟩:∃ n,n=N.toNat:=⟨_,rfl⟩;rw [←hn] at hn1 hn2 hfm;have hNN:N=(n:Int):=hn1.symm;subst hNN;rw [zt8] at hfr;obtain ⟨T,hT⟩:∃ T,T=frm t:=⟨_,rfl⟩;have hTs:T.size≤140737488351232:=by rw [hT,hfm,zue];omega
   have hcut:t.extract 0 n=T:=by rw [hT,hfm]
   have hnle:¬ (t.size:Int)<(n:Int):=by omega
   have KG:=zh (fun (W:L)=>HG.out T W hTs);rw [←hT] at hfr ⊢;obtain ⟨E,hE⟩:∃ E,E=X T:=⟨_,rfl⟩;rw [←hE] at KG;have HFIN:Hid (fr=Z→E=X T∧(n:Int)=nxN t):=fun _=>⟨hE,hN⟩
   by_cases hxv:x=v
   ·have hxx:(x==v)=Z:=by simpa using hxv
    have hxx2:(x != v)=qc:=by unfold bne;rw [hxx];rfl
    rw [ztN hxv,zt8] at hfr;obtain ⟨o,ho⟩:∃ o,o=O T:=⟨_,rfl⟩;rw [←ho] at hfr KG;subst hfr;clear hx hN hb hfq hNt hfm hn hn1 hT hE hxv ho;go_enter func272,ntmps272
    go_upto_region 4 with (go_at_call 222;(with_reducible refine K.out.mono ?_);rintro q w1 ⟨rfl,b1⟩;have HK1:Hid (w1.heap[w.heap.size]?=d (D (ec ezz) 69 (0,0))):=(b1.block _ (by simp)).trans (ztJ w _);have HB1:Hid (I w.heap.size w w1):=zba.trans (b1.mono (by simp));clear b1)
    go_upto_region 5 with (go_at_call 293;(with_reducible refine (KG.out _).mono ?_);rintro q w2 ⟨rfl,b2⟩;have HK2:=zh ((b2.block _ (zgx HK1.out)).trans HK1.out);have HB2:=zh (HB1.out.trans (b2.mono HB1.out.size));obtain ⟨z0,z1,z2,z3,z4,z5,z6,z7,z8,z9,z10⟩:=ecz HK2.out;have fz:∀ i,w2.frozen? ⟨w.heap.size,i,y⟩=qc:=fun i=>zt6 HK2.out i;clear b2)
    obtain ⟨W3,hW3⟩:∃ W3,W3=wz w2 w.heap.size E:=⟨_,rfl⟩;have HK_:Hid (W3.heap[w.heap.size]?=d (D (ec E) 69 (0,0))):=by show _=_;rw [hW3];exact zbP E HK2.out
    have HB_:Hid (I w.heap.size w W3):=by rw [hW3];exact zbU E HB2.out (ztI _)
    unfold wz at hW3;rw [←hW3];clear hW3 z0 z1 z2 z3 z4 z5 z6 z7 z8 z9 z10 fz;obtain ⟨y0,y1,y2,y3,y4,y5,y6,y7,y8,y9,y10⟩:=ecz HK_.out;have fz:∀ i,W3.frozen? ⟨w.heap.size,i,y⟩=qc:=fun i=>zt6 HK_.out i;go_wp2;obtain ⟨WF,hWF⟩:∃ WF,WF=wz W3 w.heap.size E:=⟨_,rfl⟩
    have HBK:Hid (WF.heap[w.heap.size]?=d (D (ec E) 69 (0,0))):=by
     show _=_;rw [hWF];exact zbP E HK_.out
    have HBF:Hid (I w.heap.size w WF):=by rw [hWF];exact zbU E HB_.out (ztI _)
    unfold wz at hWF;rw [←hWF];obtain ⟨f0,f1,f2,f3,f4,f5,f6,f7,f8,f9,f10⟩:=ecz HBK.out;exact ztP (v:=qi #[ev E,C G n,qj fr]) (by simp [results,results272,go_sem,f0,f1,f2,f3,f4,f5,f6,f7,f8,f9,f10]) rfl ⟨E,n,rfl,HFIN.out,HBF.out⟩
   ·have hxx:(x==v)=qc:=zcw hxv;have hxx2:(x != v)=Z:=by unfold bne;rw [hxx];rfl
    rw [ztM hxv,zun] at hfr;subst hfr;clear hx hN hb hfq hNt hfm hn hn1 hT hE hxv HFIN;go_enter func272,ntmps272
    go_wp2_with (go_at_call 222;(with_reducible refine K.out.mono ?_);rintro q w1 ⟨rfl,b1⟩;have HK1:Hid (w1.heap[w.heap.size]?=d (D (ec ezz) 69 (0,0))):=(b1.block _ (by simp)).trans (ztJ w _);have HB1:Hid (I w.heap.size w w1):=zba.trans (b1.mono (by simp));obtain ⟨z0,z1,z2,z3,z4,z5,z6,z7,z8,z9,z10⟩:=ecz HK1.out;have fz:∀ i,w1.frozen? ⟨w.heap.size,i,y⟩=qc:=fun i=>zt6 HK1.out i;clear b1)
    obtain ⟨W3,hW3⟩:∃ W3,W3=wz w1 w.heap.size ezz:=⟨_,rfl⟩;have HK_:Hid (W3.heap[w.heap.size]?=d (D (ec ezz) 69 (0,0))):=by show _=_;rw [hW3];exact zbP ezz HK1.out
    have HBF:Hid (I w.heap.size w W3):=by rw [hW3];exact zbU ezz HB1.out (ztI _)
    change bodyPost Y f272 _ Exit.ret _ (wz w1 w.heap.size ezz);rw [←hW3];obtain ⟨f0,f1,f2,f3,f4,f5,f6,f7,f8,f9,f10⟩:=ecz HK_.out;exact ztP (v:=qi #[ev ezz,C G 0,qj qc]) (by simp [results,results272,go_sem,f0,f1,f2,f3,f4,f5,f6,f7,f8,f9,f10]) rfl ⟨ezz,0,rfl,(fun h=>by cases h),HBF.out⟩
end
def jn (b:Nat):List En→List En→Option (List En)
 | out,[]=>d out
 | out,e :: t=>if e.index≤(b:Int)∨(b:Int)+out.length<e.index-1 then y else jn b (out.take (e.index-1-b).toNat++[e]) t
theorem zpE {e:TypeId} {s:Nat} (h:w.ownsRow B e s (J (d ⟨g,0,y⟩) n cap) n xs) (hk:k≤n):w.ownsRow B e s (J (d ⟨g,0,y⟩) k cap) k (xs.take (k*s)):=by
 obtain ⟨hl,h⟩:=h;have hks:k*s≤n*s:=zuI _ hk;refine ⟨by rw [zt5];omega,.inr ?_⟩;rcases h with ⟨hv,_⟩|⟨g',cap',cur,hv,hb,hg,h1,h2,h3,h4⟩
 ·cases hv
 ·cases hv
  exact ⟨_,_,cur,rfl,hb,hg,by omega,h2,h3,by rw [←h4,List.take_take,Nat.min_eq_left hks]⟩
theorem zbA {B':Nat} {e:TypeId} {size:Nat} {v:Value} (hB:B'≤B) (h:w.ownsRow B e size v n xs):w.ownsRow B' e size v n xs:=by
 obtain ⟨hl,h⟩:=h;refine ⟨hl,?_⟩;rcases h with h|⟨g,cap,cur,hv,hb,r⟩
 ·exact .inl h
 ·exact .inr ⟨g,cap,cur,hv,ztL hB hb,r⟩
theorem znj (es:List En) (k:Nat):(flat es).take (k*11)=flat (es.take k):=by
 induction es generalizing k with
 | nil=>simp [flat]
 | cons e es ih =>
   cases k with
   | zero=>simp [flat]
   | succ k =>
     have e1:flat (e :: es)=(ec e).toList++flat es:=rfl;have e2:flat ((e :: es).take (k+1))=(ec e).toList++flat (es.take k):=rfl;rw [e1,e2,←ih k,List.take_append];have hl:(ec e).toList.length=11:=rfl;rw [zt9 (by rw [hl];omega),hl,show (k+1)*11-11=k*11 by omega]
theorem Le.take {es:List En} (h:Le B (d ⟨g,0,y⟩) n cap es w) (hk:k≤n):Le B (d ⟨g,0,y⟩) k cap (es.take k) w :=
 ⟨by rw [←znj];exact zpE h.own hk,by rw [zt5,h.len];omega⟩
theorem Le.form {es:List En} (h:Le B A n c es w):(A=y∧n=0∧c=0∧es=[])∨∃ g,A=d ⟨g,0,y⟩∧n≤c∧c≤maxLen∧g<w.heap.size:=by
 rcases h.own.2 with ⟨hv,h0⟩|⟨g,cap,cur,hv,hb,hg,h1,h2,_⟩
 ·simp at hv
  have:=h.len
  exact .inl ⟨hv.1,h0,hv.2.2,List.length_eq_zero_iff.1 (by omega)⟩
 ·simp at hv;obtain ⟨rfl,rfl⟩:=hv;exact .inr ⟨g,rfl,h1,h2,(zgx hg)⟩
theorem zeo (B:Nat) (A:Option Addr) (n c:Nat) (es:List En) (w:L) (h:Le B A n c es w) (hn:n≤1000000) :
 qf Y 84 #[J A n c] w fun q w'=>∃ A' c',q=qe (J A' n c')∧Le w.heap.size A' n c' es w'∧I w.heap.size w w':=by
 rcases h.form with ⟨rfl,rfl,rfl,rfl⟩|⟨g,rfl,hc,hm,hg⟩
 ·refine Calls.mono (show qf Y 84 #[J y 0 0] w _ from AnyE.slices_Clone_nil cloneE 0 0 w) ?_;rintro q w' ⟨rfl,rfl⟩;exact ⟨y,0,rfl,Le.nil _ _,ql _ _⟩
 ·obtain ⟨i0,hi,hz0,hz1,hz2⟩:=info_parts info69
  have hone:∀ u∈flat es,u.oneCell'=Z:=fun u hu=>by
   unfold flat at hu;obtain ⟨e,_,he⟩:=List.mem_flatMap.1 hu;simp at he;rcases he with rfl|rfl|rfl|rfl|rfl|rfl|rfl|rfl|rfl|rfl|rfl<;>rfl
  have hcell:∀ j u,(flat es)[j]?=d u→w.cell? ⟨g,0+j,y⟩=d u:=fun j u hu=>by
   have hj:j<(flat es).length:=(List.getElem?_eq_some_iff.1 hu).1;rw [za4,h.len] at hj;rw [zub,h.own.cellAt j (by omega)];exact hu
  refine Calls.mono (show qf Y 84 #[J (d ⟨g,0,y⟩) n c] w _ from AnyE.slices_Clone cloneE i0 (ev ezz) 11 104 hi hz0 hz1 hz2 rfl (by omega) (fun w=>by kernel_rfl) g 0 n c (flat es) w (by rw [za4,h.len]) (by unfold maxLen;omega) (by omega) hcell hone) ?_;rintro q w' ⟨v',rfl,hown,hne,hb⟩;rcases hown.2 with ⟨hv,h0⟩|⟨g',cap,cur,rfl,r⟩
  ·exact absurd hv hne
  ·exact ⟨_,cap,rfl,⟨hown,h.len⟩,hb⟩
def jnR (B:Nat) (o:Option (List En)) (q:Ending) (w':L):Prop :=
 (∃ r A n c,o=d r∧q=qe (qi #[J A n c,qj Z])∧Le B A n c r w')∨(o=y∧q=qe (qi #[J y 0 0,qj qc]))
theorem zjW (base B0:Nat) (A A2:Option Addr) (n c n2 c2:Nat) (l more:List En) (w:L) (hL:Le B0 A n c l w) (hM:zcx w.heap.size A2 n2 more w) (hb:base≤1099511627776) (hn:n≤64) (hn2:n2≤64)
 (hix:∀ i e,l[i]?=d e→e.index=((base+i+1:Nat):Int)) (hok:∀ e∈more,e.Ok) :
 qf Y 75 #[C qd base,J A n c,J A2 n2 c2] w fun q w'=>jnR w.heap.size (jn base l more) q w'∧I w.heap.size w w':=by
 have HL:=zh hL;have HE:=zh hL.ents;have HM:=zh hM;have HIX:=zh hix;have HOK:=zh hok;have hll:Hid (l.length=n):=hL.len;have hml:Hid (more.length=n2):=hM.len;have hB0:=ql w.heap.size w;clear hL hM hix hok;go_enter func75,ntmps75;go_wp2
 go_loopw [8,17] (fun x i wr=>∃ k:Nat,i=C G k∧x=C qd ((base:Int)+k)∧k≤n∧I w.heap.size w wr) (fun _ i _=>n-(qh i).toNat)
 case atStart=>exact ⟨0,rfl,by simp,ztO _,hB0⟩
 case round =>
  obtain ⟨k,rfl,rfl,hk,hbw⟩:=hrel
  by_cases hlt:k<n
  ·obtain ⟨e,he⟩:∃ e,l[k]?=d e:=⟨_,zt2 (by rw [hll.out];exact hlt)⟩;obtain ⟨a,hA,hB,d0,d1,d2,d3,d4,d5,d6,d7,d8,d9,d10⟩:=(HE.out.below hbw).cs he;have hei:e.index=(base:Int)+k+1:=by rw [HIX.out k e he];omega
   obtain ⟨et,ei,ek,ecl_,es_,eb,em,en,el,ed,eo⟩:=e;subst hei;have HBW:=zh hbw;clear hB he hbw;rw [hA];clear hA;have hq1:((base:Int)+k+1==(base:Int)+k+1)=Z:=by simp
   go_wp2
   go_roundw
   case rel=>exact ⟨k+1,by go_num,by congr 1,by omega,HBW.out.alloc HBW.out.size _⟩
   case measure=>simp [qh];omega
  ·have hkn:k=n:=by omega
   subst hkn;have HLw:=zh (HL.out.below hbw);have HBW:=zh hbw;clear hbw;have KC:=zh (zeo B0 A k c l wr HLw.out (by omega));clear hlt
   go_upto_region 10 with (go_at_call 84;(with_reducible refine KC.out.mono ?_);rintro q w1 ⟨A1,c1,rfl,hL1,hb1⟩)
   have hB1:=HBW.out.trans (hb1.mono HBW.out.size);have hL1':Le w.heap.size A1 k c1 l w1:=⟨zbA HBW.out.size hL1.own,hL1.len⟩;clear hL1 hb1 KC;go_wp2
   go_loopw [8,11,32] (fun x o i wr=>∃ (k:Nat) (A':Option Addr) (m c':Nat) (out:List En),i=C G k∧o=J A' m c'∧x=C qd ((base:Int)+m)∧k≤n2∧m≤64+k∧Hid (jn base out (more.drop k)=jn base l more)∧Le w.heap.size A' m c' out wr∧I w.heap.size w wr) (fun _ _ i _=>n2-(qh i).toNat)
   case atStart=>exact ⟨0,A1,k,c1,l,rfl,rfl,rfl,ztO _,by omega,rfl,hL1',hB1⟩
   case round =>
    obtain ⟨j,A',m,c',out,rfl,rfl,rfl,hj,hmk,hjn,hLo,hbw⟩:=hrel
    by_cases hlt:j<n2
    ·obtain ⟨e,he⟩:∃ e,more[j]?=d e:=⟨_,zt2 (by rw [hml.out];exact hlt)⟩;obtain ⟨a,hA,hB,d0,d1,d2,d3,d4,d5,d6,d7,d8,d9,d10⟩:=(HM.out.below hbw).cs he
     have hdr:more.drop j=e :: more.drop (j+1):=by
      rw [List.drop_eq_getElem_cons (by rw [hml.out];exact hlt)]
      congr 1
      exact (List.getElem?_eq_some_iff.1 he).2
     have hol:=hLo.len;have hok:=HOK.out e (zuy he);have i0:=hok.i0;have i1:=hok.i1;have hjs:Hid (jn base out (e :: more.drop (j+1))=if e.index≤(base:Int)∨(base:Int)+out.length<e.index-1 then y else jn base (out.take (e.index-1-base).toNat++[e]) (more.drop (j+1))):=rfl;rw [hdr] at hjn;have HLO:=zh hLo;have HBW:=zh hbw;have hpx:=ztJ wr (D (ec e) 69);have HPX:=zh hpx;have hBx:Hid (I w.heap.size w (wr.alloc (D (ec e) 69))):=HBW.out.alloc HBW.out.size _;have HLX:Hid (Le w.heap.size A' m c' out (wr.alloc (D (ec e) 69))):=HLO.out.below zba;clear he hB hdr hok hLo hbw hpx hL1' hB1;rw [hA];clear hA
     by_cases hbad:e.index≤(base:Int)∨(base:Int)+m<e.index-1
     ·have hF:Hid (jn base l more=y):=by show _=_;rw [←hjn.out,hjs.out,if_pos (by rw [hol];exact hbad)]
      by_cases hb1:e.index≤(base:Int)
      ·have t1:decide (e.index≤(base:Int))=Z:=ztN hb1;clear hbad hol;go_wp2;go_ret2;exact ⟨.inr ⟨hF.out,rfl⟩,hBx.out⟩
      ·have t1:decide (e.index≤(base:Int))=qc:=ztM hb1;have t2:decide ((base:Int)+m<e.index-1)=Z:=ztN (by omega);clear hbad hol;go_wp2;go_ret2;exact ⟨.inr ⟨hF.out,rfl⟩,hBx.out⟩
     ·have t1:decide (e.index≤(base:Int))=qc:=ztM (by omega);have t2:decide ((base:Int)+m<e.index-1)=qc:=ztM (by omega);obtain ⟨h,hh⟩:∃ h,h=(e.index-1-base).toNat:=⟨_,rfl⟩;have hhi:e.index-1-(base:Int)=(h:Int):=by omega
      have hhm:h≤m:=by omega
      have hix2:Hid (e.index=(base:Int)+((h+1:Nat):Int)):=by show _=_;omega
      have hnx:Hid (jn base (out.take h++[e]) (more.drop (j+1))=jn base l more):=by
       show _=_;rw [←hjn.out,hjs.out,if_neg (by rw [hol];exact hbad),←hh]
      clear hbad hol hh hjs hjn
      go_upto_region 15 with fail
      obtain ⟨WX,hWX⟩:∃ WX,WX=wr.alloc (D (ec e) 69):=⟨_,rfl⟩;have hsx:WX.heap.size=wr.heap.size+1:=by rw [hWX];simp
      rw [←hWX] at HPX hBx HLX;refine zaf (w:=WX) hWX.symm ?_;obtain ⟨i28,hi28,hz28,hs28,hb28⟩:=info_parts info69;obtain ⟨q0,q1,q2,q3,q4,q5,q6,q7,q8,q9,q10⟩:=ecz (w:=WX.drew) HPX.out;have hw1:qd.wrap (e.index-1)=e.index-1:=by rw [zt3];omega
      have hw2:qd.wrap (h:Int)=(h:Int):=by rw [zt3];omega
      have HNEWS:Hid (∀ j u,(ec e).toList[j]?=d u→(WX.alloc (D (ec e) 69)).cell? ((⟨WX.heap.size,0,y⟩:Addr).add j)=d u):=World.news_of_block (ztJ WX _);have HBG:Hid (I w.heap.size w (WX.alloc (D (ec e) 69)).drew):=(hBx.out.alloc hBx.out.size _).drew;have HBS:Hid (w.heap.size≤(WX.alloc (D (ec e) 69)).heap.size):=(hBx.out.alloc hBx.out.size (D (ec e) 69)).size;have HGS:Hid (wr.heap.size<(WX.alloc (D (ec e) 69)).drew.heap.size):=by show wr.heap.size<(WX.alloc (D (ec e) 69)).heap.size;rw [ztR,hsx];omega
      have HGX:Hid ((WX.alloc (D (ec e) 69)).drew.heap[wr.heap.size]?=d (D (ec e) 69 (0,0))):=(ztQ WX _ _ (by omega)).trans HPX.out;have HGN:Hid (∀ g,qn (J A' m c')=d g→g<wr.heap.size):=fun g hg=>(HLO.out.own.lt g hg).2;obtain ⟨r0,r1,r2,r3,r4,r5,r6,r7,r8,r9,r10⟩:=ecz (w:=(WX.alloc (D (ec e) 69)).drew) HGX.out;clear hWX hsx t1 t2;rcases HLO.out.form with ⟨rfl,rfl,rfl,rfl⟩|⟨g,rfl,hmc,hcm,hgl⟩
      ·have hh0:h=0:=by omega
       subst hh0;have hhi0:e.index-1-(base:Int)=0:=by omega
       have hwz:qd.wrap 0=0:=by decide
       clear hhi hw2;have HOW:Hid ((WX.alloc (D (ec e) 69)).drew.ownsRow w.heap.size 69 11 (J y 0 0) 0 (flat ([]:List En))):=zuF _ _ _ _
       go_region_law (refine step_append_lies _ (by rfl) _ _ 54 (by rfl) w.heap.size 69 i28 (ev ezz) 11 104 underlying54 hi28 hz28 hs28 hb28 (by rfl) (by omega) (J y 0 0) 0 (flat ([]:List En)) (by rfl) (by exact HOW.out) ⟨WX.heap.size,0,y⟩ 1 1 (ec e).toList (by rfl) rfl (by exact HNEWS.out) (fun u hu=>by simp at hu;rcases hu with rfl|rfl|rfl|rfl|rfl|rfl|rfl|rfl|rfl|rfl|rfl<;>rfl) (by omega) (by unfold maxLen;omega) (by omega) (by exact HBS.out) (WX.heap.size+1) (by simp) ?_;intro g4 cap w4 hown4 hgrow hat hlt4)
       all_goals
        have hL4:Hid (Le w.heap.size (d ⟨g4,0,y⟩) (0+1) cap (([]:List En).take 0++[e]) w4):=⟨by rw [zdH];exact hown4,rfl⟩;have hB4:Hid (I w.heap.size w w4):=HBG.out.grown hgrow HBS.out (fun g hg=>by have:=(HOW.out.lt g hg).1;omega);have y1:w4.cell? ⟨wr.heap.size,1,y⟩=d (C qd e.index):=(zuE (hgrow.block wr.heap.size HGS.out (fun hg=>by have:=HGN.out _ hg.symm;omega))).trans (zcr _ wr.heap.size 1 _ 69 (0,0) HGX.out);clear hown4 hgrow hat hlt4;go_wp2
        go_roundw
        case rel=>first|exact ⟨j+1,_,_,cap,_,by go_num,rfl,by rw [hix2.out],by omega,by omega,hnx,hL4.out,hB4.out⟩
        case measure=>simp [qh];omega
      ·have HOW:Hid ((WX.alloc (D (ec e) 69)).drew.ownsRow w.heap.size 69 11 (J (d ⟨g,0,y⟩) h c') h (flat (out.take h))):=((HLX.out.take hhm).below zba).own;have hhc:¬ (c':Int)<(h:Int):=by omega
       have hhc2:(h:Int)≤(c':Int):=by omega
       go_region_law (refine step_append_lies _ (by rfl) _ _ 54 (by rfl) w.heap.size 69 i28 (ev ezz) 11 104 underlying54 hi28 hz28 hs28 hb28 (by rfl) (by omega) (J (d ⟨g,0,y⟩) h c') h (flat (out.take h)) (by rfl) (by exact HOW.out) ⟨WX.heap.size,0,y⟩ 1 1 (ec e).toList (by rfl) rfl (by exact HNEWS.out) (fun u hu=>by simp at hu;rcases hu with rfl|rfl|rfl|rfl|rfl|rfl|rfl|rfl|rfl|rfl|rfl<;>rfl) (by omega) (by unfold maxLen;omega) (by omega) (by exact HBS.out) (WX.heap.size+1) (by simp) ?_;intro g4 cap w4 hown4 hgrow hat hlt4)
       all_goals
        have hL4:Hid (Le w.heap.size (d ⟨g4,0,y⟩) (h+1) cap (out.take h++[e]) w4):=⟨by rw [zdH];exact hown4,by rw [zt4,zt5,HLO.out.len];simp;omega⟩;have hB4:Hid (I w.heap.size w w4):=HBG.out.grown hgrow HBS.out (fun g hg=>by have:=(HOW.out.lt g hg).1;omega);have y1:w4.cell? ⟨wr.heap.size,1,y⟩=d (C qd e.index):=(zuE (hgrow.block wr.heap.size HGS.out (fun hg=>by have:=HGN.out _ hg.symm;omega))).trans (zcr _ wr.heap.size 1 _ 69 (0,0) HGX.out);clear hown4 hgrow hat hlt4;go_wp2
        go_roundw
        case rel=>first|exact ⟨j+1,_,_,cap,_,by go_num,rfl,by rw [hix2.out],by omega,by omega,hnx,hL4.out,hB4.out⟩
        case measure=>simp [qh];omega
    ·have hF:more.drop j=[]:=zut (by rw [hml.out];omega);rw [hF] at hjn;have HLO:=zh hLo;clear hLo;go_wp2;go_ret2;exact ⟨.inl ⟨out,A',m,c',hjn.out.symm,rfl,HLO.out⟩,hbw⟩
end Go.Proofs.YtidndekacnmihaaGreat
