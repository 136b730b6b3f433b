/- Parts of a proof. -/
import Derived.Test.YtidndekacnmihaaGreatF05
import Derived.Test.YtidndekacnmihaaGreatF08
import Derived.Test.YtidndekacnmihaaGreatF10
set_option linter.unusedVariables false
set_option linter.unusedSimpArgs false
set_option maxHeartbeats 8000000
set_option maxRecDepth 100000
namespace Go.Proofs.YtidndekacnmihaaGreat
open Go.RowKit
section
open Dk
def knB (v:Int):Bool:=decide (v=1∨v=2)
def zz (n:Nat):ByteArray:=txt (zeros n)
theorem zz_size (n:Nat):(zz n).size=n:=by unfold zz;rw [zah];unfold zeros;simp
theorem ziO (n:Nat):Lib.repeatL [(0:UInt8)] n=zeros n:=by
 induction n with
 | zero=>rfl
 | succ n ih=>show 0 :: Lib.repeatL [(0:UInt8)] n=_;rw [ih];rfl
theorem zhY (v:Int) (w:World):Calls Tryz.prog 195 #[.int .i64 v] w fun q w'=>q=.returned (.bool (knB v))∧w=w':=by
 by_cases h1:v=1
 ·subst h1;go_enter Tryz.func195,Tryz.ntmps195;go_wp2;go_ret;exact ⟨rfl,rfl⟩
 ·have e1:=zcG h1;have hk:Hid (knB v=(v==2)):=by show _=_;unfold knB;by_cases h:v=2<;>simp [h1,h]
  clear h1;go_enter Tryz.func195,Tryz.ntmps195;go_wp2;go_ret;exact ⟨by rw [hk.out];rfl,rfl⟩
theorem zbL (n:Nat) (w:World) (hn:n≤4611686018427387904):Calls Tryz.prog 196 #[.int .i64 n] w fun q w'=>q=.returned (.int .i64 (((n+63) / 64:Nat):Int))∧w=w':=by
 go_enter Tryz.func196,Tryz.ntmps196;go_wp2;go_ret;exact ⟨by show Ending.returned (.int .i64 (((n:Int)+64-1) / 64))=_;congr 2;omega,rfl⟩
theorem zpm (n:Nat) (w:World) (hn:n≤4611686018427387904):Calls Tryz.prog 175 #[.int .i64 n] w fun q w'=>q=.returned (.int .i64 (((n+63) / 64*64:Nat):Int))∧w=w':=by
 go_enter Tryz.func175,Tryz.ntmps175;go_wp2;go_ret;exact ⟨by show Ending.returned (.int .i64 (((n:Int)+64-1) / 64*64))=_;congr 2;omega,rfl⟩
theorem zmw (n:Nat):(⟨(Lib.repeatL (⟨#[0]⟩:ByteArray).data.toList n).toArray⟩:ByteArray)=zz n:=by
 show (⟨(Lib.repeatL [0] n).toArray⟩:ByteArray)=_;rw [ziO];rfl
theorem zeh (n:Nat) (w:World) (hn:n≤140737488355328):Calls Tryz.prog 163 #[.int .i64 n] w fun q w'=>q=.returned (.string (zz n))∧Below w.heap.size w w':=by
 have h:=Tryz.strings_Repeat ⟨#[0]⟩ n w (by omega) (by show 1*n≤_;omega);rw [zmw] at h;have H:=zh h;clear h;go_enter Tryz.func163,Tryz.ntmps163
 go_wp2_with (go_at_call 160;(with_reducible refine H.out.mono ?_);rintro q w' ⟨rfl,hb⟩)
 go_ret;exact ⟨rfl,hb⟩
def bgn (v:Int) (n:Nat):Nat:=if v=1 then (n+63) / 64*64 else n
theorem zmx (v:Int) (n:Nat):n≤bgn v n:=by unfold bgn;split<;>omega
theorem zmy (v:Int) (n:Nat):bgn v n≤n+63:=by unfold bgn;split<;>omega
theorem zfx (v:Int) (n:Nat) (w:World) (hn:n≤4611686018427387904):Calls Tryz.prog 141 #[.int .i64 v,.int .i64 n] w fun q w'=>q=.returned (.int .i64 (bgn v n))∧w=w':=by
 by_cases h1:v=1
 ·subst h1;have hb:Hid (bgn 1 n=(n+63) / 64*64):=rfl;have hs:=zh (zbL n);go_enter Tryz.func141,Tryz.ntmps141
  go_wp2_with (go_at_call 196;(with_reducible refine (hs.out _ hn).mono ?_);rintro q w' ⟨rfl,rfl⟩)
  go_ret;exact ⟨by rw [hb.out];rfl,rfl⟩
 ·have e1:=zcG h1;have hb:Hid (bgn v n=n):=if_neg h1;clear h1;go_enter Tryz.func141,Tryz.ntmps141;go_wp2;go_ret;exact ⟨by rw [hb.out];rfl,rfl⟩
end
section
open Dk
def padv (v:Int) (s:ByteArray):ByteArray:=s++zz (bgn v s.size-s.size)
theorem zdV (v:Int) (s:ByteArray):(padv v s).size=bgn v s.size:=by
 unfold padv;rw [zsH,zz_size]
 have:=zmx v s.size
 omega
def rcA (v:Int) (S:En→ByteArray) (es:List En):ByteArray:=es.foldl (fun s e=>padv v (s++S e)) ⟨#[]⟩
theorem zdW (v:Int) (S:En→ByteArray) (es:List En) (e:En):rcA v S (es++[e])=padv v (rcA v S es++S e):=by
 unfold rcA;rw [List.foldl_append];rfl
theorem zfC (v:Int) (S:En→ByteArray) (M:Nat) (es:List En) (h:∀ e∈es,(S e).size≤M):(rcA v S es).size≤es.length*(M+63):=by
 have key:∀ (es:List En) (s:ByteArray),(∀ e∈es,(S e).size≤M)→(es.foldl (fun s e=>padv v (s++S e)) s).size≤s.size+es.length*(M+63):=by
  intro es;induction es with
  | nil=>intro s _;simp
  | cons a l ih =>
    intro s h;have h1:=ih (padv v (s++S a)) fun e he=>h e (zsA _ he);have h2:=h a (by simp);have h3:=zmy v (s++S a).size;rw [zdV] at h1;rw [zsH] at h1 h3;rw [List.foldl_cons,zs2,Nat.succ_mul];omega
 have:=key es ⟨#[]⟩ h
 have e:(⟨#[]⟩:ByteArray).size=0:=rfl;rw [e,zs0] at this;exact this
theorem zbw {es:List En} {k:Nat} {e:En} (h:es[k]?=some e):es.take (k+1)=es.take k++[e]:=by
 rw [List.take_add_one,h];rfl
theorem zcJ.cs {B:Nat} {A:Option Addr} {n:Nat} {es:List En} {w:World} (h:zcJ B A n es w) {k:Nat} {e:En} (he:es[k]?=some e) :
 ∃ a,A=some a∧a.block<B∧w.cell? (a.add (k*11))=some (.int .u64 e.term)∧w.cell? ⟨(a.add (k*11)).block,(a.add (k*11)).off+1,none⟩=some (.int .u64 e.index)∧w.cell? ⟨(a.add (k*11)).block,(a.add (k*11)).off+2,none⟩=some (.int .i64 e.kind)
  ∧ w.cell? ⟨(a.add (k*11)).block,(a.add (k*11)).off+3,none⟩=some (.int .u64 e.client)∧w.cell? ⟨(a.add (k*11)).block,(a.add (k*11)).off+4,none⟩=some (.int .u64 e.seq)∧w.cell? ⟨(a.add (k*11)).block,(a.add (k*11)).off+5,none⟩=some (.int .u64 e.block)
  ∧ w.cell? ⟨(a.add (k*11)).block,(a.add (k*11)).off+6,none⟩=some (.int .u64 e.many)∧w.cell? ⟨(a.add (k*11)).block,(a.add (k*11)).off+7,none⟩=some (.int .i64 e.node)∧w.cell? ⟨(a.add (k*11)).block,(a.add (k*11)).off+8,none⟩=some (.int .i64 e.level)
  ∧ w.cell? ⟨(a.add (k*11)).block,(a.add (k*11)).off+9,none⟩=some (.string e.data)∧w.cell? ⟨(a.add (k*11)).block,(a.add (k*11)).off+10,none⟩=some (.string e.old):=by
 obtain ⟨a,hA,hB,hc⟩:=h.at_ k e he;exact ⟨a,hA,hB,hc 0 (by omega),hc 1 (by omega),hc 2 (by omega),hc 3 (by omega),hc 4 (by omega),hc 5 (by omega),hc 6 (by omega),hc 7 (by omega),hc 8 (by omega),hc 9 (by omega),hc 10 (by omega)⟩
def Sb (B b:Nat) (s:ByteArray) (w:World):Prop:=Lib.IsBuilder 151 5 B b (Lib.strCells s) w
theorem zeT (B b:Nat) (x s:ByteArray) (w:World) (h:Sb B b x w) (hlen:x.size+s.size≤140737488355328) (hBw:B≤w.heap.size) :
 Calls Tryz.prog 182 #[.pointer (some ⟨b,0,none⟩),.string s] w fun e w'=>e=.returned (.tuple #[.int .i64 s.size,.nilIface])∧Sb B b (x++s) w'∧Below B w w':=by
 refine (Tryz.Builder_WriteString B b _ s w h (by rw [ztx];exact hlen) hBw).mono ?_;rintro e w' ⟨rfl,h1,h2⟩;refine ⟨rfl,.inr ?_,h2⟩;rw [←zbX];exact h1
theorem zoO (B b:Nat) (x:ByteArray) (w:World) (h:Sb B b x w) :
 Calls Tryz.prog 205 #[.pointer (some ⟨b,0,none⟩)] w fun e w'=>e=.returned (.int .i64 x.size)∧w=w':=by
 refine (Tryz.Builder_Len B b _ w h).mono ?_;rintro e w' ⟨rfl,h1⟩;exact ⟨by rw [ztx],h1.symm⟩
theorem zg0 (B b:Nat) (x:ByteArray) (w:World) (h:Sb B b x w) (hBw:B≤w.heap.size) :
 Calls Tryz.prog 94 #[.pointer (some ⟨b,0,none⟩)] w fun e w'=>e=.returned (.string x)∧Below B w w':=by
 have h1:=Tryz.Builder_String_any B b x.data.toList w (by rw [←show Lib.strCells x=Lib.byteCells x.data.toList from rfl];exact h) hBw;exact h1
theorem Sb.below {B b:Nat} {s:ByteArray} {w w':World} (h:Sb B b s w) (hb:Below w.heap.size w w'):Sb B b s w':=zfE h hb
def zrW (F:FuncId) (v:Int) (S:En→ByteArray) (O:En→Bool) (es:List En):Prop :=
 ∀ e∈es,∀ W,Calls Tryz.prog F #[.int .i64 v,ev e] W fun q w'=>q=.returned (.tuple #[.string (S e),.bool (O e)])∧Below W.heap.size W w'
def rcS (v:Int) (S:En→ByteArray) (O:En→Bool) (es:List En):ByteArray:=if knB v&&es.all O then rcA v S es else ⟨#[]⟩
def rcO (v:Int) (O:En→Bool) (es:List En):Bool:=knB v&&es.all O
theorem zfD (v:Int) (S:En→ByteArray) (O:En→Bool) (A:Option Addr) (n c:Nat) (es:List En) (w:World) (hE:zcJ w.heap.size A n es w) (hn:n≤64)
 (hS:∀ e∈es,(S e).size≤2097152) (hP:zrW 204 v S O es) :
 Calls Tryz.prog 154 #[.int .i64 v,.slice A n c] w fun q w'=>q=.returned (.tuple #[.string (rcS v S O es),.bool (rcO v O es)])∧Below w.heap.size w w':=by
 have HE:=zh hE;have HS:=zh hS;have HP:=zh hP;clear hE hS hP;have KK:=zh (zhY v)
 cases hv:knB v with
 | false =>
   have hT1:Hid (rcS v S O es=⟨#[]⟩):=by show _=_;unfold rcS;rw [hv];rfl
   have hT2:Hid (rcO v O es=false):=by show _=_;unfold rcO;rw [hv];rfl
   go_enter Tryz.func154,Tryz.ntmps154
   go_wp2_with (go_at_call 195;(with_reducible refine (KK.out _).mono ?_);rintro q w' ⟨rfl,rfl⟩)
   go_ret2;exact ⟨by rw [hT1.out,hT2.out];rfl,Below.refl _ _⟩
 | true =>
   have hT1:Hid (rcS v S O es=if es.all O then rcA v S es else ⟨#[]⟩):=by show _=_;unfold rcS;rw [hv];rfl
   have hT2:Hid (rcO v O es=es.all O):=by show _=_;unfold rcO;rw [hv];rfl
   go_enter Tryz.func154,Tryz.ntmps154
   go_wp2_with (go_at_call 195;(with_reducible refine (KK.out _).mono ?_);rintro q w' ⟨rfl,rfl⟩)
   go_wp2;clear hv;obtain ⟨g,hg⟩:∃ g,g=w.heap.size:=⟨_,rfl⟩;have hb0:Below w.heap.size w (w.alloc (Obj.cells #[.pointer none,.slice none 0 0] 151)):=zba;have hs0:Sb g g ⟨#[]⟩ (w.alloc (Obj.cells #[.pointer none,.slice none 0 0] 151)):=by rw [hg];exact Lib.fresh_isBuilder 151 5 w
   have HB0:=zh hb0;have HS0:=zh hs0;clear hb0 hs0;rw [←hg];have HG:=zh hg;clear hg
   go_loopw [16] (fun i wr=>∃ k:Nat,k≤n∧i=.int .i64 k∧Hid ((es.take k).all O=true)∧Sb g g (rcA v S (es.take k)) wr∧Below w.heap.size w wr) (fun i _=>n-(Go.RowKit.intOf i).toNat)
   case atStart=>exact ⟨0,zsE _,rfl,rfl,HS0.out,HB0.out⟩
   case round =>
    obtain ⟨k,hk,rfl,hall,hsb,hb⟩:=hrel
    by_cases hlt:k<n
    ·obtain ⟨e,he⟩:∃ e,es[k]?=some e:=⟨_,zsW (by rw [HE.out.len];exact hlt)⟩;obtain ⟨a,hA,hB,d0,d1,d2,d3,d4,d5,d6,d7,d8,d9,d10⟩:=(HE.out.below hb).cs he;have hmem:e∈es:=ztv he;have K:=zh (HP.out e hmem);have hsz:(S e).size≤2097152:=HS.out e hmem;have htk:=zbw he
     have hra:(rcA v S (es.take k)).size≤k*(2097152+63):=by
      have h1:=zfC v S 2097152 (es.take k) fun e he=>HS.out e (List.mem_of_mem_take he);rw [zsU] at h1;exact zsB h1 (ztr _ (Nat.min_le_left _ _))
     have hall1:Hid ((es.take (k+1)).all O=((es.take k).all O&&O e)):=by show _=_;rw [htk,List.all_append];simp
     have hrc1:Hid (rcA v S (es.take (k+1))=padv v (rcA v S (es.take k)++S e)):=by show _=_;rw [htk,zdW]
     obtain ⟨r,hr⟩:∃ r,r=rcA v S (es.take k):=⟨_,rfl⟩;rw [←hr] at hsb hra hrc1
     have hrs:r.size≤134217728:=by
      have:k*(2097152+63)≤63*(2097152+63):=ztr _ (by omega)
      omega
     have HSB:=zh hsb;have HB:=zh hb;have HEE:=zh he;clear hsb hb he hr hra htk hmem;rw [hA];clear hA
     cases ho:O e with
     | false =>
       have hF:Hid (es.all O=false):=by
        show _=_;rw [List.all_eq_false];exact ⟨e,ztv HEE.out,by rw [ho];simp⟩
       rw [ho] at K
       go_wp2_with (go_at_call 204;(with_reducible refine (K.out _).mono ?_);rintro q w1 ⟨rfl,hb1⟩)
       go_ret2;exact ⟨by rw [hT1.out,hT2.out,hF.out];rfl,(HB.out.alloc HB.out.size _).trans (hb1.mono (HB.out.alloc HB.out.size _).size)⟩
     | true =>
       rw [ho] at K;have Q0:Sb g g r (wr.alloc (.cells (ec e) 69)):=HSB.out.below zba;have S0:w.heap.size≤(wr.alloc (.cells (ec e) 69)).heap.size:=(HB.out.alloc HB.out.size _).size;have B0:Below w.heap.size w (wr.alloc (.cells (ec e) 69)):=HB.out.alloc HB.out.size _;have hgg:g≤w.heap.size:=by rw [HG.out];exact zsy _
       have hgb:∀ {w2 w3:World},Below g w2 w3→Below w.heap.size w2 w3:=by rw [HG.out];exact fun h=>h
       obtain ⟨R,hR⟩:∃ R,R=r++S e:=⟨_,rfl⟩;have hRs:R.size=r.size+(S e).size:=by rw [hR,zsH]
       rw [←hR] at hrc1;obtain ⟨m,hm⟩:∃ m,m=bgn v R.size-R.size:=⟨_,rfl⟩;have hm63:m≤63:=by have:=zmy v R.size;omega
       have hmi:(bgn v R.size:Int)-(R.size:Int)=(m:Int):=by have:=zmx v R.size;omega
       have hpad:Hid (R++zz m=rcA v S (es.take (k+1))):=by show _=_;rw [hrc1.out,hm];rfl
       have hlz:R.size+(zz m).size≤140737488355328:=by rw [zz_size];omega
       have hlr:r.size+(S e).size≤140737488355328:=by omega
       have hlm:R.size≤4611686018427387904:=by omega
       have hmz:m≤140737488355328:=by omega
       have hmax:bgn v R.size≤4611686018427387904:=by have:=zmy v R.size;omega
       have HR:=zh hR;clear hm hR hRs
       go_wp2_with (first
        | (go_at_call 204;(with_reducible refine (K.out _).mono ?_);rintro q w1 ⟨rfl,hb1⟩;have Q1:=Q0.below hb1;have B1:=B0.trans (hb1.mono S0);have hg1:g≤w1.heap.size:=zsB hgg B1.size;clear Q0 hb1)
        | (go_at_call 182;(with_reducible refine (zeT g g r (S e) w1 Q1 hlr hg1).mono ?_);rintro q w2 ⟨rfl,Q2,hb2⟩;rw [←HR.out] at Q2;have B2:=B1.trans (hgb hb2);clear Q1 hb2)
        | (go_at_call 205;(with_reducible refine (zoO g g R w2 Q2).mono ?_);rintro q w3 ⟨rfl,rfl⟩)
        | (go_at_call 141;(with_reducible refine (zfx v _ w2 hlm).mono ?_);rintro q w3 ⟨rfl,rfl⟩)
        | (go_at_call 163;(with_reducible refine (zeh m w2 hmz).mono ?_);rintro q w4 ⟨rfl,hb4⟩;have Q4:=Q2.below hb4;have B4:=B2.trans (hb4.mono B2.size);have hg4:g≤w4.heap.size:=zsB hgg B4.size)
        | (go_at_call 182;(with_reducible refine (zeT g g R (zz m) w4 Q4 hlz hg4).mono ?_);rintro q w5 ⟨rfl,Q5,hb5⟩;have B5:=B4.trans (hgb hb5)))
       go_roundw
       case rel=>exact ⟨k+1,by omega,by go_num,by show _=_;rw [hall1.out,hall.out,ho];rfl,by rw [←hpad.out];exact Q5,B5⟩
       case measure=>simp [Go.RowKit.intOf];omega
    ·have hF:es.take k=es:=zsX (by rw [HE.out.len];omega);rw [hF] at hall hsb;have K:=zh (zg0 g g _ wr hsb (by rw [HG.out];exact hb.size));have HALL:=zh hall.out;have HB:=zh hb;clear hall hsb hb hF
     go_wp2_with (go_at_call 94;(with_reducible refine K.out.mono ?_);rintro q w1 ⟨rfl,hb1⟩)
     go_ret2;exact ⟨by rw [hT1.out,hT2.out,HALL.out];rfl,HB.out.trans (by rw [←HG.out];exact hb1)⟩
end
section
open Dk
theorem zgY (w:World) (m:Nat) (hm:m≤140737488355328):(Instr.makeSlice 78 (.int .i64 m) (.int .i64 m)).run Tryz.prog w=.ok (.slice (some ⟨w.heap.size,0,none⟩) m m) (w.alloc (.cells (Lib.byteCells (zeros m)).toArray 5)):=by
 obtain ⟨i0,hi0,hz0,hz1,hz2⟩:=info_parts Tryz.info5;have h1:=run_make (P:=Tryz.prog) w 78 5 i0 (.int .u8 0) Tryz.underlying78 hi0 hz0 .i64 .i64 m m (by omega) (by omega) (by rw [hz2];omega) (by omega)
 have e:madeCells (Value.int .u8 0).cells ((m:Int).toNat*i0.size)=(Lib.byteCells (Dk.zeros m)).toArray:=by
  rw [hz1];apply Array.ext';have h2:=toList_madeCells_one (Value.int .u8 0) m;have h3:((m:Int).toNat*1)=m:=by omega
  rw [h3];show (madeCells #[Value.int IntKind.u8 0] m).toList=_;rw [h2];simp [Lib.byteCells,Dk.zeros]
 rw [e] at h1;exact h1
theorem zgZ (w:World) (g m:Nat) (h:w.heap[g]?=some (.cells (Lib.byteCells (zeros m)).toArray 5 (0,0))):(convert 78 9 (.slice (some ⟨g,0,none⟩) m m)).run Tryz.prog w=.ok (.string (zz m)) w:=by
 refine zdY (by simp [Dk.zeros]) (fun j u hu=>?_);rw [zcr _ _ _ _ 5 (0,0) h,zs0]
 simpa using hu
theorem zbZ (v:Int) (S:En→ByteArray) (O:En→Bool) (A:Option Addr) (n c:Nat) (es:List En) (w:World) (hE:zcJ w.heap.size A n es w) (hn:n≤64)
 (hS:∀ e∈es,(S e).size≤2097152) (hP:zrW 174 v S O es) :
 Calls Tryz.prog 115 #[.int .i64 v,.slice A n c] w fun q w'=>q=.returned (.tuple #[.string (rcS v S O es),.bool (rcO v O es)])∧Below w.heap.size w w':=by
 have HE:=zh hE;have HS:=zh hS;have HP:=zh hP;clear hE hS hP
 by_cases hvn:v≠1∧v≠2
 ·have hk:knB v=false:=zsC (by omega);have hT1:Hid (rcS v S O es=⟨#[]⟩):=by show _=_;unfold rcS;rw [hk];rfl
  have hT2:Hid (rcO v O es=false):=by show _=_;unfold rcO;rw [hk];rfl
  have h1:(v==1)=false:=zcG (by omega);have h2:(v==2)=false:=zcG (by omega);have g1:(v != 1)=true:=by unfold bne;rw [h1];rfl
  have g2:(v != 2)=true:=by unfold bne;rw [h2];rfl
  clear hvn hk;go_enter Tryz.func115,Tryz.ntmps115;go_wp2;go_ret2;exact ⟨by rw [hT1.out,hT2.out];rfl,Below.refl _ _⟩
 ·have hv:v=1∨v=2:=by omega
  clear hvn;have hk:knB v=true:=zsD hv;have hT1:Hid (rcS v S O es=if es.all O then rcA v S es else ⟨#[]⟩):=by show _=_;unfold rcS;rw [hk];rfl
  have hT2:Hid (rcO v O es=es.all O):=by show _=_;unfold rcO;rw [hk];rfl
  clear hk;have hB0:=Below.refl w.heap.size w;go_enter Tryz.func115,Tryz.ntmps115;obtain ⟨V,hV⟩:∃ V,V=v:=⟨_,rfl⟩;rw [←hV] at hT1 hT2;have HV:=zh hV;rcases hv with rfl|rfl
  all_goals
   clear hV;go_wp2
   go_loopw [6,7] (fun s i wr=>∃ k:Nat,k≤n∧i=.int .i64 k∧Hid ((es.take k).all O=true)∧(∃ r,s=.string r∧Hid (rcA V S (es.take k)=r))∧Below w.heap.size w wr) (fun _ i _=>n-(Go.RowKit.intOf i).toNat)
   case atStart=>exact ⟨0,zsE _,rfl,rfl,⟨_,rfl,rfl⟩,hB0⟩
   case round =>
    obtain ⟨k,hk,rfl,hall,⟨r,rfl,hrr⟩,hb⟩:=hrel
    by_cases hlt:k<n
    ·obtain ⟨e,he⟩:∃ e,es[k]?=some e:=⟨_,zsW (by rw [HE.out.len];exact hlt)⟩;obtain ⟨a,hA,hB,d0,d1,d2,d3,d4,d5,d6,d7,d8,d9,d10⟩:=(HE.out.below hb).cs he;have hmem:e∈es:=ztv he;have K:=zh (HP.out e hmem);have hsz:(S e).size≤2097152:=HS.out e hmem;have htk:=zbw he
     have hra:r.size≤k*(2097152+63):=by
      rw [←hrr.out];refine zsB (zfC _ S 2097152 (es.take k) fun e he=>HS.out e (List.mem_of_mem_take he)) ?_;rw [zsU];exact ztr _ (Nat.min_le_left _ _)
     have hall1:Hid ((es.take (k+1)).all O=((es.take k).all O&&O e)):=by show _=_;rw [htk,List.all_append];simp
     have hrc1:∀ v,rcA v S (es.take k)=r→Hid (padv v (r++S e)=rcA v S (es.take (k+1))):=fun v hr=>by show _=_;rw [htk,zdW,hr]
     have hrc:=hrc1 _ hrr.out
     have hrs:r.size≤134217728:=by
      have:k*(2097152+63)≤63*(2097152+63):=ztr _ (by omega)
      omega
     have HB:=zh hb;have HEE:=zh he;clear hb he hrr hra htk hmem hrc1;rw [hA];clear hA
     cases ho:O e with
     | false =>
       have hF:Hid (es.all O=false):=by
        show _=_;rw [List.all_eq_false];exact ⟨e,ztv HEE.out,by rw [ho];simp⟩
       rw [ho] at K
       go_wp2_with (go_at_call 174;(with_reducible refine (K.out _).mono ?_);rintro q w1 ⟨rfl,hb1⟩)
       go_ret2;exact ⟨by rw [←HV.out,hT1.out,hT2.out,hF.out];rfl,HB.out.trans (hb1.mono HB.out.size)⟩
     | true =>
       rw [ho] at K;obtain ⟨R,hR⟩:∃ R,R=r++S e:=⟨_,rfl⟩;have hRs:R.size=r.size+(S e).size:=by rw [hR,zsH]
       rw [←hR] at hrc;have hlr:¬ 9223372036854775807<r.size+(S e).size:=by omega
       have hRl:R.size≤140737488355000:=by omega
       have HR:=zh hR;clear hR hRs
       go_upto_region 11 with (go_at_call 174;(with_reducible refine (K.out _).mono ?_);rintro q w1 ⟨rfl,hb1⟩)
       rw [←HR.out];have B1:=HB.out.trans (hb1.mono HB.out.size);clear hb1
       first
        | (have e1:V=1:=HV.out
           have KU:=zh (zpm R.size);have hlm:R.size≤4611686018427387904:=by omega
           obtain ⟨U,hU⟩:∃ U,U=(R.size+63) / 64*64:=⟨_,rfl⟩;rw [←hU] at KU;obtain ⟨m,hm⟩:∃ m,m=U-R.size:=⟨_,rfl⟩;have hmi:(U:Int)-(R.size:Int)=(m:Int):=by omega
           have hm63:m≤63:=by omega
           have hmax:U≤4611686018427387904:=by omega
           have hmk:=zgY w1 m (by omega);have hcv:=zgZ (w1.alloc (.cells (Lib.byteCells (zeros m)).toArray 5)) w1.heap.size m (zsz w1 _);have hpd:Hid (R++zz m=rcA V S (es.take (k+1))):=by show _=_;rw [←hrc.out,e1,hm,hU];rfl
           have hls:¬ 9223372036854775807<R.size+(zz m).size:=by rw [zz_size];omega
           have B2:=B1.alloc B1.size (.cells (Lib.byteCells (zeros m)).toArray 5);obtain ⟨M,hM⟩:∃ M,M=(Lib.byteCells (zeros m)).toArray:=⟨_,rfl⟩;rw [←hM] at hmk hcv B2;clear e1 hU hm hM
           go_wp2_with (go_at_call 175;(with_reducible refine (KU.out _ hlm).mono ?_);rintro q w2 ⟨rfl,rfl⟩)
           go_roundw
           case rel=>exact ⟨k+1,by omega,by go_num,by show _=_;rw [hall1.out,hall.out,ho];rfl,⟨_,rfl,hpd.symm⟩,B2⟩
           case measure=>simp [Go.RowKit.intOf];omega)
        | (have hpd:Hid (rcA V S (es.take (k+1))=R):=by
            show _=_;rw [←hrc.out,HV.out];unfold padv
            have:bgn 2 R.size-R.size=0:=by unfold bgn;rw [if_neg (by decide)];omega
            rw [this];apply ByteArray.ext;simp [zz,Dk.zeros,txt,ztb]
           go_wp2
           go_roundw
           case rel=>exact ⟨k+1,by omega,by go_num,by show _=_;rw [hall1.out,hall.out,ho];rfl,⟨_,rfl,hpd⟩,B1⟩
           case measure=>simp [Go.RowKit.intOf];omega)
    ·have hF:es.take k=es:=zsX (by rw [HE.out.len];omega);rw [hF] at hall hrr;go_wp2;go_ret2;exact ⟨by rw [←HV.out,hT1.out,hT2.out,hall.out,hrr.out];rfl,hb⟩
end
section
open Dk Vi
def zqC (F:FuncId) (X:ByteArray→En) (V:ByteArray→Int) (O:ByteArray→Bool):Prop :=
 ∀ s W,s.size≤140737488351232→Calls Tryz.prog F #[.string s] W fun q w'=>q=.returned (.tuple #[ev (X s),.int .i64 (V s),.bool (O s)])∧Below W.heap.size W w'
def frm (t:ByteArray):ByteArray:=t.extract 0 (nxN t).toNat
def frB (O:ByteArray→Bool) (v:Int) (t:ByteArray):Bool:=nOk t&&(decide (nxV t=v)&&O (frm t))
def tlB (s:ByteArray) (p:Nat):ByteArray:=s.extract p s.size
def zh0 (v:Int) (s:ByteArray) (p:Nat):Nat:=min (bgn v (p+(nxN (tlB s p)).toNat)) s.size
def pl (X:ByteArray→En) (O:ByteArray→Bool) (v:Int) (s:ByteArray):Nat→Nat→List (En×Nat)
 | 0,_=>[]
 | f+1,p=>if frB O v (tlB s p) then (X (frm (tlB s p)),zh0 v s p) :: pl X O v s f (zh0 v s p) else []
def lpP (l:List (En×Nat)):Nat:=(l.getLast?.map Prod.snd).getD 0
theorem zjJ (l:List (En×Nat)) (x:En×Nat):lpP (l++[x])=x.2:=by unfold lpP;simp
def zfV (X:ByteArray→En) (O:ByteArray→Bool) (v:Int) (s:ByteArray):List (En×Nat):=pl X O v s (s.size+1) 0
def zkM (X:ByteArray→En) (O:ByteArray→Bool) (v:Int) (s:ByteArray):List En:=(zfV X O v s).map Prod.fst
def zmK (X:ByteArray→En) (O:ByteArray→Bool) (v:Int) (s:ByteArray):Nat:=lpP (zfV X O v s)
theorem zeS (s:ByteArray) (p:Nat) (hp:p≤s.size):(tlB s p).size=s.size-p:=by unfold tlB;rw [zs5];omega
theorem zfB {t:ByteArray} (h:nOk t=true):0<(nxN t).toNat∧((nxN t).toNat:Int)=nxN t∧(nxN t).toNat≤t.size:=by
 obtain ⟨_,e2,e3⟩:=ze1 h;have h2:=zk2 h
 have h3:0<(pack (nV t) (nBd t)).size:=by
  unfold pack;rw [zsH,zsH,zbg];omega
 have h4:=(ze0 h).2.1
 have h5:t.size=(pack (nV t) (nBd t)).size+(nW t).size:=by
  have:=congrArg ByteArray.size h4
  rw [zsH] at this;exact this
 omega
theorem zmM {t:ByteArray} (h:t.size=0):nOk t=false:=by
 cases hk:nOk t with
 | false=>rfl
 | true=>have:=zfB hk;omega
theorem zmN {v:Int} {s:ByteArray} {p:Nat} (hp:p≤s.size) (h:nOk (tlB s p)=true):p<zh0 v s p∧zh0 v s p≤s.size:=by
 obtain ⟨h1,_,h3⟩:=zfB h;rw [zeS s p hp] at h3;have h4:=zmx v (p+(nxN (tlB s p)).toNat);unfold zh0;omega
theorem zrK {O:ByteArray→Bool} {v:Int} {t:ByteArray} (h:frB O v t=true):nOk t=true:=by
 unfold frB at h;rw [zsR] at h;exact h.1
structure Le (B:Nat) (A:Option Addr) (n c:Nat) (es:List En) (w:World):Prop where
 own:w.ownsRow B 69 11 (.slice A n c) n (flat es)
 len:es.length=n
theorem Le.nil (B:Nat) (w:World):Le B none 0 0 [] w:=⟨ztq w B 69 11,rfl⟩
theorem Le.below {B:Nat} {A:Option Addr} {n c:Nat} {es:List En} {w w':World} (h:Le B A n c es w) (hb:Below w.heap.size w w'):Le B A n c es w' :=
 ⟨zeY h.own fun k hk=>hb.block k (h.own.lt k hk).2,h.len⟩
theorem Le.ents {B:Nat} {A:Option Addr} {n c:Nat} {es:List En} {w:World} (h:Le B A n c es w):zcJ w.heap.size A n es w:=zil h.own h.len
theorem Tryz.info69:(Tryz.prog.info? 69).map (fun i=>(i.zero,i.size,i.bytes))=some (some (ev ezz),11,104):=by kernel_rfl
theorem za8 {ops:Array Oper} {rest:List Oper} {o:Oper} {a:Act} {Q:Exit→Act→World→Prop} (hgd:o.guard=none) (s x:Operand)
 (ho:o.op=.call { callee:=.builtin .append,args:=#[s,x],argTypes:=#[54,54] }) (w:World) (B:Nat) (A:Option Addr) (n c g0:Nat) (es:List En) (e:En)
 (hs:a.eval s=.slice A n c) (hx:a.eval x=.slice (some ⟨g0,0,none⟩) 1 1) (hL:Le B A n c es w) (hel:w.heap[g0]?=some (.cells (ec e) 69 (0,0))) (hn:n≤1000000000000) (hB:B≤w.heap.size)
 (h:∀ g cap w',Le B (some ⟨g,0,none⟩) (n+1) cap (es++[e]) w'→Below B w w'→(∀ k,k<w.heap.size→Value.ownBlock (.slice A n c)≠some k→w'.heap[k]?=w.heap[k]?)→wpList Tryz.prog ops Q rest (a.put o.dst (.slice (some ⟨g,0,none⟩) (n+1) cap)) w'):wpList Tryz.prog ops Q (o :: rest) a w:=by
 obtain ⟨i0,hi,hz0,hz1,hz2⟩:=info_parts Tryz.info69;refine wpList_append_lies w hgd s x 54 ho B 69 i0 (ev ezz) 11 104 Tryz.underlying54 hi hz0 hz1 hz2 rfl (by omega) (.slice A n c) n (flat es) hs hL.own ⟨g0,0,none⟩ 1 1 (ec e).toList hx rfl (World.news_of_block hel) (fun u hu=>by simp at hu;rcases hu with rfl|rfl|rfl|rfl|rfl|rfl|rfl|rfl|rfl|rfl|rfl<;>rfl) (by omega) (by unfold maxLen;omega) (by omega) hB _ rfl ?_;intro g cap w' hown hgrow hat hlt;refine h g cap w' ⟨by rw [zdx];exact hown,by rw [zsS,hL.len];rfl⟩ ((Below.refl B w).grown hgrow hB (fun k hk=>(hL.own.lt k hk).1)) (fun k hk hne=>hgrow.block k hk fun e=>hne e.symm)
theorem zkx (X:ByteArray→En) (V:ByteArray→Int) (O:ByteArray→Bool) (v:Int) (s:ByteArray) (w:World) (hs:s.size≤1000000000000) (hG:(∃ k,nOk (tlB s k)=true)→zqC 194 X V O)
 (hV:∀ t,nOk t=true→O (frm t)=true→V (frm t)=nxV t) (hv0:-9223372036854775808≤v) :
 Calls Tryz.prog 131 #[.int .i64 v,.string s] w fun q w'=>∃ A n c,q=.returned (.tuple #[.slice A n c,.int .i64 (zmK X O v s)])∧Le w.heap.size A n c (zkM X O v s) w'∧Below w.heap.size w w':=by
 have HG:=zh hG;have HV:=zh hV;clear hG hV;have hB0:=Below.refl w.heap.size w;have KN:=zh ze4;have KU:=zh zpm;go_enter Tryz.func131,Tryz.ntmps131;go_wp2
 go_loopw [6,7] (fun l p wr=>∃ (A:Option Addr) (n c k f:Nat) (pre:List (En×Nat)),l=.slice A n c∧p=.int .i64 k∧k≤s.size∧s.size<f+k∧n≤k∧Hid (pre++pl X O v s f k=zfV X O v s)∧Hid (lpP pre=k)∧Le w.heap.size A n c (pre.map Prod.fst) wr∧Below w.heap.size w wr) (fun _ p _=>s.size-(Go.RowKit.intOf p).toNat)
 case atStart=>exact ⟨none,0,0,0,s.size+1,[],rfl,rfl,zsE _,by omega,zsy _,rfl,rfl,Le.nil _ _,hB0⟩
 case round =>
  obtain ⟨A,n,c,k,f,pre,rfl,rfl,hk,hf,hnk,hpl,hlp,hL,hb⟩:=hrel;obtain ⟨f,rfl⟩:∃ f',f=f'+1:=⟨f-1,by omega⟩;have hpf:Hid (pl X O v s (f+1) k=if frB O v (tlB s k) then (X (frm (tlB s k)),zh0 v s k) :: pl X O v s f (zh0 v s k) else []):=rfl
  have hstop:frB O v (tlB s k)=false→Hid (zkM X O v s=pre.map Prod.fst∧zmK X O v s=k):=fun h=>by
   have h1:=hpf.out;rw [h,if_neg (by decide)] at h1;have h2:=hpl.out;rw [h1,zth] at h2;show _∧_;unfold zkM zmK;rw [←h2];exact ⟨rfl,hlp.out⟩
  by_cases hlt:k<s.size
  ·obtain ⟨t,ht⟩:∃ t,t=tlB s k:=⟨_,rfl⟩;have hts:t.size=s.size-k:=by rw [ht];exact zeS s k hk
   rw [←ht] at hstop hpf;have hext:s.extract k s.size=t:=ht.symm;have HL:=zh hL;have HB:=zh hb;have htb:t.size≤281474976710656:=by omega
   clear hL hb
   cases hk1:nOk t with
   | false =>
     have hst:=hstop (by unfold frB;rw [hk1,ztd]);have K:=zh (KN.out t wr htb);rw [hk1] at K;clear hstop hpf hpl hlp ht hk1
     go_wp2_with (go_at_call 192;(with_reducible refine K.out.mono ?_);rintro q w1 ⟨rfl,hb1⟩)
     go_ret2;exact ⟨A,n,c,by rw [hst.out.2];rfl,by rw [hst.out.1];exact HL.out.below hb1,HB.out.trans (hb1.mono HB.out.size)⟩
   | true =>
     have HG:=zh (HG.out ⟨k,by rw [←ht];exact hk1⟩);obtain ⟨hp1,hp2,hp3⟩:=zfB hk1;have hlt2:=(zmN (v:=v) hk (by rw [←ht];exact hk1));have hnx:zh0 v s k=min (bgn v (k+(nxN t).toNat)) s.size:=by unfold zh0;rw [←ht]
     have hfm:frm t=s.extract k (k+(nxN t).toNat):=by
      have h1:=ByteArray.extract_extract (a:=s) (i:=k) (j:=s.size) (k:=0) (l:=(nxN t).toNat);rw [Nat.add_zero,Nat.min_eq_left (by omega)] at h1;unfold frm;rw [←h1,hext]
     obtain ⟨N,hN⟩:∃ N,N=(nxN t).toNat:=⟨_,rfl⟩;rw [←hN] at hp1 hp2 hp3 hnx hfm;have K:=zh (KN.out t wr htb);rw [hk1,←hp2] at K;obtain ⟨T,hT⟩:∃ T,T=frm t:=⟨_,rfl⟩;have hTs:T.size≤140737488351232:=by rw [hT,hfm,zs5];omega
     have hcut:s.extract k (k+N)=T:=by rw [hT,hfm]
     have KG:=zh (fun (W:World)=>HG.out T W hTs);have hVT:O T=true→V T=nxV t:=by rw [hT];exact HV.out t hk1
     have hfrB:frB O v t=(decide (nxV t=v)&&O T):=by unfold frB;rw [hk1,zsY,←hT]
     rw [←hT] at hpf;obtain ⟨x,hx⟩:∃ x,x=nxV t:=⟨_,rfl⟩;rw [←hx] at K hVT hfrB;obtain ⟨E,hE⟩:∃ E,E=X T:=⟨_,rfl⟩;rw [←hE] at KG hpf;have e1:((k:Int)+(N:Int)).toNat=k+N:=by omega
     have hkN:¬ (s.size:Int)<(k:Int)+N:=by omega
     clear hN hfm hT hE hx hp2
     cases hO:O T with
     | false =>
       rw [hO] at KG hfrB;have hst:=hstop (by rw [hfrB,Bool.and_false]);clear hstop hpf hpl hlp ht hk1 hfrB hVT hlt2 hnx
       go_wp2_with (first
        | (go_at_call 192;(with_reducible refine K.out.mono ?_);rintro q w1 ⟨rfl,hb1⟩)
        | (go_at_call 194;(with_reducible refine (KG.out _).mono ?_);rintro q w2 ⟨rfl,hb2⟩))
       go_ret2;have hbb:=hb1.trans (hb2.mono hb1.size);exact ⟨A,n,c,by rw [hst.out.2];rfl,by rw [hst.out.1];exact HL.out.below (hbb.alloc hbb.size _),(HB.out.trans (hbb.mono HB.out.size)).alloc (zsB HB.out.size hbb.size) _⟩
     | true =>
       rw [hO] at KG hfrB;have hvx:=hVT hO;rw [hvx] at KG
       cases hd:decide (x=v) with
       | false =>
         rw [hd] at hfrB;have hst:=hstop hfrB;have hxv:(x==v)=false:=zcG (of_decide_eq_false hd);have hxv2:(x != v)=true:=by unfold bne;rw [hxv];rfl
         clear hstop hpf hpl hlp ht hk1 hfrB hVT hlt2 hnx hd hvx
         go_wp2_with (first
          | (go_at_call 192;(with_reducible refine K.out.mono ?_);rintro q w1 ⟨rfl,hb1⟩)
          | (go_at_call 194;(with_reducible refine (KG.out _).mono ?_);rintro q w2 ⟨rfl,hb2⟩))
         go_ret2;have hbb:=hb1.trans (hb2.mono hb1.size);exact ⟨A,n,c,by rw [hst.out.2];rfl,by rw [hst.out.1];exact HL.out.below (hbb.alloc hbb.size _),(HB.out.trans (hbb.mono HB.out.size)).alloc (zsB HB.out.size hbb.size) _⟩
       | true =>
         have hxv:x=v:=of_decide_eq_true hd;rw [hd] at hfrB;have hpf2:=hpf.out;rw [hfrB,if_pos (by decide)] at hpf2
         have hnext:Hid ((pre++[(E,zh0 v s k)])++pl X O v s f (zh0 v s k)=zfV X O v s):=by
          show _=_;rw [zsZ,List.singleton_append,←hpf2];exact hpl.out
         subst hxv;clear hstop hpf hpl hlp ht hk1 hfrB hVT hd hvx hpf2;obtain ⟨P,hP⟩:∃ P,P=zh0 x s k:=⟨_,rfl⟩;rw [←hP] at hnx hnext hlt2
         have hfin:∀ (g cap:Nat) (wz:World),Le w.heap.size (some ⟨g,0,none⟩) (n+1) cap (pre.map Prod.fst++[E]) wz→Below w.heap.size w wz →
          ∃ (A:Option Addr) (n' c k' f:Nat) (pre:List (En×Nat)),(Value.slice (some ⟨g,0,none⟩) (n+1) cap)=.slice A n' c∧(Value.int .i64 P)=.int .i64 k'∧k'≤s.size∧s.size<f+k'∧n'≤k'∧Hid (pre++pl X O x s f k'=zfV X O x s)∧Hid (lpP pre=k')∧Le w.heap.size A n' c (pre.map Prod.fst) wz∧Below w.heap.size w wz:=fun g cap wz h1 h2 =>
          ⟨_,n+1,cap,P,f,_,rfl,rfl,by omega,by omega,by omega,hnext,by show _=_;rw [zjJ],by rw [List.map_append];exact h1,h2⟩
         have HF:=zh hfin;clear hfin hnext hP
         go_upto_region 10 with (first
          | (go_at_call 192;(with_reducible refine K.out.mono ?_);rintro q w1 ⟨rfl,hb1⟩)
          | (go_at_call 194;(with_reducible refine (KG.out _).mono ?_);rintro q w2 ⟨rfl,hb2⟩))
         have hbb:=hb1.trans (hb2.mono hb1.size);have B2:Below w.heap.size w (w2.alloc (.cells (ec E) 69)):=(HB.out.trans (hbb.mono HB.out.size)).alloc (zsB HB.out.size hbb.size) _;have B3:=B2.alloc B2.size (.cells (ec E) 69);have L3:=(HL.out.below (hbb.alloc hbb.size (.cells (ec E) 69))).below ((Below.refl _ _).alloc (zsy _) (.cells (ec E) 69))
         have hel:((w2.alloc (.cells (ec E) 69)).alloc (.cells (ec E) 69)).heap[w2.heap.size+1]?=some (.cells (ec E) 69 (0,0)):=by
          have h:=zsz (w2.alloc (.cells (ec E) 69)) (.cells (ec E) 69);rw [show (w2.alloc (.cells (ec E) 69)).heap.size=w2.heap.size+1 by simp] at h;exact h
         have hnb:n≤1000000000000:=by omega
         have HB3:=zh B3;have HL3:=zh L3;have HEL:=zh hel;have hkN2:(k:Int)+N≤s.size:=by omega
         clear hbb B2 B3 L3 hel hb1 hb2 K KG
         by_cases h1:x=1
         ·subst h1;obtain ⟨U,hU⟩:∃ U,U=(k+N+63) / 64*64:=⟨_,rfl⟩
          have hPm:Hid ((min (U:Int) (s.size:Int))=(P:Int)):=by
           show _=_;rw [hnx];unfold bgn;rw [if_pos rfl,←hU];omega
          have K43:=KU.out (k+N);rw [←hU] at K43;have hU2:(k+N)≤4611686018427387904:=by omega
          have ekN:((k+N:Nat):Int)=(k:Int)+N:=by omega
          rw [ekN] at K43;have HK:=zh (fun W=>K43 W hU2);clear K43 hU hnx ekN
          go_wp2_with (first
           | (at_builtin;refine za8 rfl _ _ rfl _ w.heap.size A n c (w2.heap.size+1) (pre.map Prod.fst) E rfl rfl HL3.out HEL.out (by omega) HB3.out.size ?_;intro g cap w4 hL4 hb4 hk4)
           | (go_at_call 175;(with_reducible refine (HK.out _).mono ?_);rintro q w5 ⟨rfl,rfl⟩))
          rw [hPm.out];exact ⟨HF.out g cap w4 hL4 (HB3.out.trans hb4),by simp [Go.RowKit.intOf];omega⟩
         ·have hx1:(x==1)=false:=zcG h1
          have hPm:Hid ((k:Int)+N=(P:Int)):=by
           show _=_;rw [hnx];unfold bgn;rw [if_neg h1];omega
          clear h1 hnx
          go_wp2_with (first
           | (at_builtin;refine za8 rfl _ _ rfl _ w.heap.size A n c (w2.heap.size+1) (pre.map Prod.fst) E rfl rfl HL3.out HEL.out (by omega) HB3.out.size ?_;intro g cap w4 hL4 hb4 hk4))
          rw [hPm.out];exact ⟨HF.out g cap w4 hL4 (HB3.out.trans hb4),by simp [Go.RowKit.intOf];omega⟩
  ·have hfr:frB O v (tlB s k)=false:=by
    have:(tlB s k).size=0:=by rw [zeS s k hk];omega
    unfold frB;rw [zmM this,ztd]
   have hst:=hstop hfr;have HL:=zh hL;have HB:=zh hb;clear hstop hfr hpf hpl hlp hL hb;go_wp2;go_ret2;exact ⟨A,n,c,by rw [hst.out.2];rfl,by rw [hst.out.1];exact HL.out,HB.out⟩
end
section
open Dk Vi
theorem ecz {w:World} {b:Nat} {e:En} (h:w.heap[b]?=some (.cells (ec e) 69 (0,0))):w.cell? ⟨b,0,none⟩=some (.int .u64 e.term)∧w.cell? ⟨b,1,none⟩=some (.int .u64 e.index)∧w.cell? ⟨b,2,none⟩=some (.int .i64 e.kind)∧w.cell? ⟨b,3,none⟩=some (.int .u64 e.client)∧w.cell? ⟨b,4,none⟩=some (.int .u64 e.seq)∧w.cell? ⟨b,5,none⟩=some (.int .u64 e.block)∧w.cell? ⟨b,6,none⟩=some (.int .u64 e.many)∧w.cell? ⟨b,7,none⟩=some (.int .i64 e.node)∧w.cell? ⟨b,8,none⟩=some (.int .i64 e.level)∧w.cell? ⟨b,9,none⟩=some (.string e.data)∧w.cell? ⟨b,10,none⟩=some (.string e.old) :=
 ⟨zcr w b 0 _ 69 (0,0) h,zcr w b 1 _ 69 (0,0) h,zcr w b 2 _ 69 (0,0) h,zcr w b 3 _ 69 (0,0) h,zcr w b 4 _ 69 (0,0) h,zcr w b 5 _ 69 (0,0) h,zcr w b 6 _ 69 (0,0) h,zcr w b 7 _ 69 (0,0) h,zcr w b 8 _ 69 (0,0) h,zcr w b 9 _ 69 (0,0) h,zcr w b 10 _ 69 (0,0) h⟩
theorem zmD (X:ByteArray→En) (V:ByteArray→Int) (O:ByteArray→Bool) (v:Int) (t:ByteArray) (w:World) (hs:t.size≤140737488351232) (hG:nOk t=true→zqC 293 X V O) :
 Calls Tryz.prog 272 #[.int .i64 v,.string t] w fun q w'=>∃ E z,q=.returned (.tuple #[ev E,.int .i64 z,.bool (frB O v t)])∧(frB O v t=true→E=X (frm t)∧z=nxN t)∧Below w.heap.size w w':=by
 have HG:=zh hG;clear hG;obtain ⟨x,hx⟩:∃ x,x=nxV t:=⟨_,rfl⟩;obtain ⟨N,hN⟩:∃ N,N=nxN t:=⟨_,rfl⟩;obtain ⟨b,hb⟩:∃ b,b=nOk t:=⟨_,rfl⟩
 have hNt:b=true→(N.toNat:Int)=N∧N.toNat≤t.size:=fun h=>by
  have:=zfB (hb.symm.trans h)
  rw [hN];exact ⟨this.2.1,this.2.2⟩
 have hfm:frm t=t.extract 0 N.toNat:=by rw [hN];rfl
 have K:=zh (zeB t (w.alloc (Obj.cells (ec ezz) 69)) (by omega));rw [←hx,←hN,←hb] at K;have hfr:frB O v t=(b&&(decide (x=v)&&O (frm t))):=by rw [hb,hx];rfl
 obtain ⟨fr,hfq⟩:∃ fr,fr=frB O v t:=⟨_,rfl⟩;rw [←hfq] at hfr ⊢
 cases b with
 | false =>
   rw [ztd] at hfr;subst hfr;clear hx hN hb hfq hNt hfm;go_enter Tryz.func272,Tryz.ntmps272
   go_wp2_with (go_at_call 222;(with_reducible refine K.out.mono ?_);rintro q w1 ⟨rfl,b1⟩;have HK1:Hid (w1.heap[w.heap.size]?=some (.cells (ec ezz) 69 (0,0))):=(b1.block _ (by simp)).trans (zsz w _);have HB1:Hid (Below w.heap.size w w1):=zba.trans (b1.mono (by simp));obtain ⟨z0,z1,z2,z3,z4,z5,z6,z7,z8,z9,z10⟩:=ecz HK1.out;have fz:∀ i,w1.frozen? ⟨w.heap.size,i,none⟩=false:=fun i=>zsV HK1.out i;clear b1)
   obtain ⟨W3,hW3⟩:∃ W3,W3=wz w1 w.heap.size ezz:=⟨_,rfl⟩;have HK_:Hid (W3.heap[w.heap.size]?=some (.cells (ec ezz) 69 (0,0))):=by show _=_;rw [hW3];exact zcp ezz HK1.out
   have HBF:Hid (Below w.heap.size w W3):=by rw [hW3];exact zcQ ezz HB1.out (zsy _)
   change bodyPost Tryz.prog Tryz.f272 _ Exit.ret _ (wz w1 w.heap.size ezz);rw [←hW3];obtain ⟨f0,f1,f2,f3,f4,f5,f6,f7,f8,f9,f10⟩:=ecz HK_.out;exact zsF (v:=.tuple #[ev ezz,.int .i64 0,.bool false]) (by simp [results,Tryz.results272,go_sem,f0,f1,f2,f3,f4,f5,f6,f7,f8,f9,f10]) rfl ⟨ezz,0,rfl,(fun h=>by cases h),HBF.out⟩
 | true =>
   have HG:=zh (HG.out hb.symm);obtain ⟨hn1,hn2⟩:=hNt rfl;obtain ⟨n,hn⟩:∃ n,n=N.toNat:=⟨_,rfl⟩;rw [←hn] at hn1 hn2 hfm;have hNN:N=(n:Int):=hn1.symm;subst hNN;rw [zsY] at hfr;obtain ⟨T,hT⟩:∃ T,T=frm t:=⟨_,rfl⟩;have hTs:T.size≤140737488351232:=by rw [hT,hfm,zs5];omega
   have hcut:t.extract 0 n=T:=by rw [hT,hfm]
   have hnle:¬ (t.size:Int)<(n:Int):=by omega
   have KG:=zh (fun (W:World)=>HG.out T W hTs);rw [←hT] at hfr ⊢;obtain ⟨E,hE⟩:∃ E,E=X T:=⟨_,rfl⟩;rw [←hE] at KG;have HFIN:Hid (fr=true→E=X T∧(n:Int)=nxN t):=fun _=>⟨hE,hN⟩
   by_cases hxv:x=v
   ·have hxx:(x==v)=true:=by simpa using hxv
    have hxx2:(x != v)=false:=by unfold bne;rw [hxx];rfl
    rw [zsD hxv,zsY] at hfr;obtain ⟨o,ho⟩:∃ o,o=O T:=⟨_,rfl⟩;rw [←ho] at hfr KG;subst hfr;clear hx hN hb hfq hNt hfm hn hn1 hT hE hxv ho;go_enter Tryz.func272,Tryz.ntmps272
    go_upto_region 4 with (go_at_call 222;(with_reducible refine K.out.mono ?_);rintro q w1 ⟨rfl,b1⟩;have HK1:Hid (w1.heap[w.heap.size]?=some (.cells (ec ezz) 69 (0,0))):=(b1.block _ (by simp)).trans (zsz w _);have HB1:Hid (Below w.heap.size w w1):=zba.trans (b1.mono (by simp));clear b1)
    go_upto_region 5 with (go_at_call 293;(with_reducible refine (KG.out _).mono ?_);rintro q w2 ⟨rfl,b2⟩;have HK2:=zh ((b2.block _ (zgx HK1.out)).trans HK1.out);have HB2:=zh (HB1.out.trans (b2.mono HB1.out.size));obtain ⟨z0,z1,z2,z3,z4,z5,z6,z7,z8,z9,z10⟩:=ecz HK2.out;have fz:∀ i,w2.frozen? ⟨w.heap.size,i,none⟩=false:=fun i=>zsV HK2.out i;clear b2)
    obtain ⟨W3,hW3⟩:∃ W3,W3=wz w2 w.heap.size E:=⟨_,rfl⟩;have HK_:Hid (W3.heap[w.heap.size]?=some (.cells (ec E) 69 (0,0))):=by show _=_;rw [hW3];exact zcp E HK2.out
    have HB_:Hid (Below w.heap.size w W3):=by rw [hW3];exact zcQ E HB2.out (zsy _)
    unfold wz at hW3;rw [←hW3];clear hW3 z0 z1 z2 z3 z4 z5 z6 z7 z8 z9 z10 fz;obtain ⟨y0,y1,y2,y3,y4,y5,y6,y7,y8,y9,y10⟩:=ecz HK_.out;have fz:∀ i,W3.frozen? ⟨w.heap.size,i,none⟩=false:=fun i=>zsV HK_.out i;go_wp2;obtain ⟨WF,hWF⟩:∃ WF,WF=wz W3 w.heap.size E:=⟨_,rfl⟩
    have HBK:Hid (WF.heap[w.heap.size]?=some (.cells (ec E) 69 (0,0))):=by
     show _=_;rw [hWF];exact zcp E HK_.out
    have HBF:Hid (Below w.heap.size w WF):=by rw [hWF];exact zcQ E HB_.out (zsy _)
    unfold wz at hWF;rw [←hWF];obtain ⟨f0,f1,f2,f3,f4,f5,f6,f7,f8,f9,f10⟩:=ecz HBK.out;exact zsF (v:=.tuple #[ev E,.int .i64 n,.bool fr]) (by simp [results,Tryz.results272,go_sem,f0,f1,f2,f3,f4,f5,f6,f7,f8,f9,f10]) rfl ⟨E,n,rfl,HFIN.out,HBF.out⟩
   ·have hxx:(x==v)=false:=zcG hxv;have hxx2:(x != v)=true:=by unfold bne;rw [hxx];rfl
    rw [zsC hxv,ztd] at hfr;subst hfr;clear hx hN hb hfq hNt hfm hn hn1 hT hE hxv HFIN;go_enter Tryz.func272,Tryz.ntmps272
    go_wp2_with (go_at_call 222;(with_reducible refine K.out.mono ?_);rintro q w1 ⟨rfl,b1⟩;have HK1:Hid (w1.heap[w.heap.size]?=some (.cells (ec ezz) 69 (0,0))):=(b1.block _ (by simp)).trans (zsz w _);have HB1:Hid (Below w.heap.size w w1):=zba.trans (b1.mono (by simp));obtain ⟨z0,z1,z2,z3,z4,z5,z6,z7,z8,z9,z10⟩:=ecz HK1.out;have fz:∀ i,w1.frozen? ⟨w.heap.size,i,none⟩=false:=fun i=>zsV HK1.out i;clear b1)
    obtain ⟨W3,hW3⟩:∃ W3,W3=wz w1 w.heap.size ezz:=⟨_,rfl⟩;have HK_:Hid (W3.heap[w.heap.size]?=some (.cells (ec ezz) 69 (0,0))):=by show _=_;rw [hW3];exact zcp ezz HK1.out
    have HBF:Hid (Below w.heap.size w W3):=by rw [hW3];exact zcQ ezz HB1.out (zsy _)
    change bodyPost Tryz.prog Tryz.f272 _ Exit.ret _ (wz w1 w.heap.size ezz);rw [←hW3];obtain ⟨f0,f1,f2,f3,f4,f5,f6,f7,f8,f9,f10⟩:=ecz HK_.out;exact zsF (v:=.tuple #[ev ezz,.int .i64 0,.bool false]) (by simp [results,Tryz.results272,go_sem,f0,f1,f2,f3,f4,f5,f6,f7,f8,f9,f10]) rfl ⟨ezz,0,rfl,(fun h=>by cases h),HBF.out⟩
end
def jn (b:Nat):List En→List En→Option (List En)
 | out,[]=>some out
 | out,e :: t=>if e.index≤(b:Int)∨(b:Int)+out.length<e.index-1 then none else jn b (out.take (e.index-1-b).toNat++[e]) t
theorem zoN {w:World} {B g cap n k:Nat} {e:TypeId} {s:Nat} {xs:List Value} (h:w.ownsRow B e s (.slice (some ⟨g,0,none⟩) n cap) n xs) (hk:k≤n):w.ownsRow B e s (.slice (some ⟨g,0,none⟩) k cap) k (xs.take (k*s)):=by
 obtain ⟨hl,h⟩:=h;have hks:k*s≤n*s:=ztr _ hk;refine ⟨by rw [zsU];omega,.inr ?_⟩;rcases h with ⟨hv,_⟩|⟨g',cap',cur,hv,hb,hg,h1,h2,h3,h4⟩
 ·cases hv
 ·cases hv
  exact ⟨_,_,cur,rfl,hb,hg,by omega,h2,h3,by rw [←h4,List.take_take,Nat.min_eq_left hks]⟩
theorem zbv {w:World} {B B':Nat} {e:TypeId} {size:Nat} {v:Value} {n:Nat} {xs:List Value} (hB:B'≤B) (h:w.ownsRow B e size v n xs):w.ownsRow B' e size v n xs:=by
 obtain ⟨hl,h⟩:=h;refine ⟨hl,?_⟩;rcases h with h|⟨g,cap,cur,hv,hb,r⟩
 ·exact .inl h
 ·exact .inr ⟨g,cap,cur,hv,zsB hB hb,r⟩
theorem zmH (es:List En) (k:Nat):(flat es).take (k*11)=flat (es.take k):=by
 induction es generalizing k with
 | nil=>simp [flat]
 | cons e es ih =>
   cases k with
   | zero=>simp [flat]
   | succ k =>
     have e1:flat (e :: es)=(ec e).toList++flat es:=rfl;have e2:flat ((e :: es).take (k+1))=(ec e).toList++flat (es.take k):=rfl;rw [e1,e2,←ih k,List.take_append];have hl:(ec e).toList.length=11:=rfl;rw [zsX (by rw [hl];omega),hl,show (k+1)*11-11=k*11 by omega]
theorem Le.take {B g cap n k:Nat} {es:List En} {w:World} (h:Le B (some ⟨g,0,none⟩) n cap es w) (hk:k≤n):Le B (some ⟨g,0,none⟩) k cap (es.take k) w :=
 ⟨by rw [←zmH];exact zoN h.own hk,by rw [zsU,h.len];omega⟩
theorem Le.form {B:Nat} {A:Option Addr} {n c:Nat} {es:List En} {w:World} (h:Le B A n c es w):(A=none∧n=0∧c=0∧es=[])∨∃ g,A=some ⟨g,0,none⟩∧n≤c∧c≤maxLen∧g<w.heap.size:=by
 rcases h.own.2 with ⟨hv,h0⟩|⟨g,cap,cur,hv,hb,hg,h1,h2,_⟩
 ·simp at hv
  have:=h.len
  exact .inl ⟨hv.1,h0,hv.2.2,List.length_eq_zero_iff.1 (by omega)⟩
 ·simp at hv;obtain ⟨rfl,rfl⟩:=hv;exact .inr ⟨g,rfl,h1,h2,(zgx hg)⟩
theorem zei (B:Nat) (A:Option Addr) (n c:Nat) (es:List En) (w:World) (h:Le B A n c es w) (hn:n≤1000000) :
 Calls Tryz.prog 84 #[.slice A n c] w fun q w'=>∃ A' c',q=.returned (.slice A' n c')∧Le w.heap.size A' n c' es w'∧Below w.heap.size w w':=by
 rcases h.form with ⟨rfl,rfl,rfl,rfl⟩|⟨g,rfl,hc,hm,hg⟩
 ·refine Calls.mono (show Calls Tryz.prog 84 #[.slice none 0 0] w _ from AnyE.slices_Clone_nil Tryz.cloneE 0 0 w) ?_;rintro q w' ⟨rfl,rfl⟩;exact ⟨none,0,rfl,Le.nil _ _,Below.refl _ _⟩
 ·obtain ⟨i0,hi,hz0,hz1,hz2⟩:=info_parts Tryz.info69
  have hone:∀ u∈flat es,u.oneCell'=true:=fun u hu=>by
   unfold flat at hu;obtain ⟨e,_,he⟩:=List.mem_flatMap.1 hu;simp at he;rcases he with rfl|rfl|rfl|rfl|rfl|rfl|rfl|rfl|rfl|rfl|rfl<;>rfl
  have hcell:∀ j u,(flat es)[j]?=some u→w.cell? ⟨g,0+j,none⟩=some u:=fun j u hu=>by
   have hj:j<(flat es).length:=(List.getElem?_eq_some_iff.1 hu).1;rw [za2,h.len] at hj;rw [zs0,h.own.cellAt j (by omega)];exact hu
  refine Calls.mono (show Calls Tryz.prog 84 #[.slice (some ⟨g,0,none⟩) n c] w _ from AnyE.slices_Clone Tryz.cloneE i0 (ev ezz) 11 104 hi hz0 hz1 hz2 rfl (by omega) (fun w=>by kernel_rfl) g 0 n c (flat es) w (by rw [za2,h.len]) (by unfold maxLen;omega) (by omega) hcell hone) ?_;rintro q w' ⟨v',rfl,hown,hne,hb⟩;rcases hown.2 with ⟨hv,h0⟩|⟨g',cap,cur,rfl,r⟩
  ·exact absurd hv hne
  ·exact ⟨_,cap,rfl,⟨hown,h.len⟩,hb⟩
def jnR (B:Nat) (o:Option (List En)) (q:Ending) (w':World):Prop :=
 (∃ r A n c,o=some r∧q=.returned (.tuple #[.slice A n c,.bool true])∧Le B A n c r w')∨(o=none∧q=.returned (.tuple #[.slice none 0 0,.bool false]))
theorem zjI (base B0:Nat) (A A2:Option Addr) (n c n2 c2:Nat) (l more:List En) (w:World) (hL:Le B0 A n c l w) (hM:zcJ w.heap.size A2 n2 more w) (hb:base≤1099511627776) (hn:n≤64) (hn2:n2≤64)
 (hix:∀ i e,l[i]?=some e→e.index=((base+i+1:Nat):Int)) (hok:∀ e∈more,e.Ok) :
 Calls Tryz.prog 75 #[.int .u64 base,.slice A n c,.slice A2 n2 c2] w fun q w'=>jnR w.heap.size (jn base l more) q w'∧Below w.heap.size w w':=by
 have HL:=zh hL;have HE:=zh hL.ents;have HM:=zh hM;have HIX:=zh hix;have HOK:=zh hok;have hll:Hid (l.length=n):=hL.len;have hml:Hid (more.length=n2):=hM.len;have hB0:=Below.refl w.heap.size w;clear hL hM hix hok;go_enter Tryz.func75,Tryz.ntmps75;go_wp2
 go_loopw [8,17] (fun x i wr=>∃ k:Nat,i=.int .i64 k∧x=.int .u64 ((base:Int)+k)∧k≤n∧Below w.heap.size w wr) (fun _ i _=>n-(Go.RowKit.intOf i).toNat)
 case atStart=>exact ⟨0,rfl,by simp,zsE _,hB0⟩
 case round =>
  obtain ⟨k,rfl,rfl,hk,hbw⟩:=hrel
  by_cases hlt:k<n
  ·obtain ⟨e,he⟩:∃ e,l[k]?=some e:=⟨_,zsW (by rw [hll.out];exact hlt)⟩;obtain ⟨a,hA,hB,d0,d1,d2,d3,d4,d5,d6,d7,d8,d9,d10⟩:=(HE.out.below hbw).cs he;have hei:e.index=(base:Int)+k+1:=by rw [HIX.out k e he];omega
   obtain ⟨et,ei,ek,ecl_,es_,eb,em,en,el,ed,eo⟩:=e;subst hei;have HBW:=zh hbw;clear hB he hbw;rw [hA];clear hA;have hq1:((base:Int)+k+1==(base:Int)+k+1)=true:=by simp
   go_wp2
   go_roundw
   case rel=>exact ⟨k+1,by go_num,by congr 1,by omega,HBW.out.alloc HBW.out.size _⟩
   case measure=>simp [Go.RowKit.intOf];omega
  ·have hkn:k=n:=by omega
   subst hkn;have HLw:=zh (HL.out.below hbw);have HBW:=zh hbw;clear hbw;have KC:=zh (zei B0 A k c l wr HLw.out (by omega));clear hlt
   go_upto_region 10 with (go_at_call 84;(with_reducible refine KC.out.mono ?_);rintro q w1 ⟨A1,c1,rfl,hL1,hb1⟩)
   have hB1:=HBW.out.trans (hb1.mono HBW.out.size);have hL1':Le w.heap.size A1 k c1 l w1:=⟨zbv HBW.out.size hL1.own,hL1.len⟩;clear hL1 hb1 KC;go_wp2
   go_loopw [8,11,32] (fun x o i wr=>∃ (k:Nat) (A':Option Addr) (m c':Nat) (out:List En),i=.int .i64 k∧o=.slice A' m c'∧x=.int .u64 ((base:Int)+m)∧k≤n2∧m≤64+k∧Hid (jn base out (more.drop k)=jn base l more)∧Le w.heap.size A' m c' out wr∧Below w.heap.size w wr) (fun _ _ i _=>n2-(Go.RowKit.intOf i).toNat)
   case atStart=>exact ⟨0,A1,k,c1,l,rfl,rfl,rfl,zsE _,by omega,rfl,hL1',hB1⟩
   case round =>
    obtain ⟨j,A',m,c',out,rfl,rfl,rfl,hj,hmk,hjn,hLo,hbw⟩:=hrel
    by_cases hlt:j<n2
    ·obtain ⟨e,he⟩:∃ e,more[j]?=some e:=⟨_,zsW (by rw [hml.out];exact hlt)⟩;obtain ⟨a,hA,hB,d0,d1,d2,d3,d4,d5,d6,d7,d8,d9,d10⟩:=(HM.out.below hbw).cs he
     have hdr:more.drop j=e :: more.drop (j+1):=by
      rw [List.drop_eq_getElem_cons (by rw [hml.out];exact hlt)]
      congr 1
      exact (List.getElem?_eq_some_iff.1 he).2
     have hol:=hLo.len;have hok:=HOK.out e (ztv he);have i0:=hok.i0;have i1:=hok.i1;have hjs:Hid (jn base out (e :: more.drop (j+1))=if e.index≤(base:Int)∨(base:Int)+out.length<e.index-1 then none else jn base (out.take (e.index-1-base).toNat++[e]) (more.drop (j+1))):=rfl;rw [hdr] at hjn;have HLO:=zh hLo;have HBW:=zh hbw;have hpx:=zsz wr (.cells (ec e) 69);have HPX:=zh hpx;have hBx:Hid (Below w.heap.size w (wr.alloc (.cells (ec e) 69))):=HBW.out.alloc HBW.out.size _;have HLX:Hid (Le w.heap.size A' m c' out (wr.alloc (.cells (ec e) 69))):=HLO.out.below zba;clear he hB hdr hok hLo hbw hpx hL1' hB1;rw [hA];clear hA
     by_cases hbad:e.index≤(base:Int)∨(base:Int)+m<e.index-1
     ·have hF:Hid (jn base l more=none):=by show _=_;rw [←hjn.out,hjs.out,if_pos (by rw [hol];exact hbad)]
      by_cases hb1:e.index≤(base:Int)
      ·have t1:decide (e.index≤(base:Int))=true:=zsD hb1;clear hbad hol;go_wp2;go_ret2;exact ⟨.inr ⟨hF.out,rfl⟩,hBx.out⟩
      ·have t1:decide (e.index≤(base:Int))=false:=zsC hb1;have t2:decide ((base:Int)+m<e.index-1)=true:=zsD (by omega);clear hbad hol;go_wp2;go_ret2;exact ⟨.inr ⟨hF.out,rfl⟩,hBx.out⟩
     ·have t1:decide (e.index≤(base:Int))=false:=zsC (by omega);have t2:decide ((base:Int)+m<e.index-1)=false:=zsC (by omega);obtain ⟨h,hh⟩:∃ h,h=(e.index-1-base).toNat:=⟨_,rfl⟩;have hhi:e.index-1-(base:Int)=(h:Int):=by omega
      have hhm:h≤m:=by omega
      have hix2:Hid (e.index=(base:Int)+((h+1:Nat):Int)):=by show _=_;omega
      have hnx:Hid (jn base (out.take h++[e]) (more.drop (j+1))=jn base l more):=by
       show _=_;rw [←hjn.out,hjs.out,if_neg (by rw [hol];exact hbad),←hh]
      clear hbad hol hh hjs hjn
      go_upto_region 15 with fail
      obtain ⟨WX,hWX⟩:∃ WX,WX=wr.alloc (.cells (ec e) 69):=⟨_,rfl⟩;have hsx:WX.heap.size=wr.heap.size+1:=by rw [hWX];simp
      rw [←hWX] at HPX hBx HLX;refine zaf (w:=WX) hWX.symm ?_;obtain ⟨i28,hi28,hz28,hs28,hb28⟩:=info_parts Tryz.info69;obtain ⟨q0,q1,q2,q3,q4,q5,q6,q7,q8,q9,q10⟩:=ecz (w:=WX.drew) HPX.out;have hw1:IntKind.u64.wrap (e.index-1)=e.index-1:=by rw [zsT];omega
      have hw2:IntKind.u64.wrap (h:Int)=(h:Int):=by rw [zsT];omega
      have HNEWS:Hid (∀ j u,(ec e).toList[j]?=some u→(WX.alloc (.cells (ec e) 69)).cell? ((⟨WX.heap.size,0,none⟩:Addr).add j)=some u):=World.news_of_block (zsz WX _);have HBG:Hid (Below w.heap.size w (WX.alloc (.cells (ec e) 69)).drew):=(hBx.out.alloc hBx.out.size _).drew;have HBS:Hid (w.heap.size≤(WX.alloc (.cells (ec e) 69)).heap.size):=(hBx.out.alloc hBx.out.size (.cells (ec e) 69)).size;have HGS:Hid (wr.heap.size<(WX.alloc (.cells (ec e) 69)).drew.heap.size):=by show wr.heap.size<(WX.alloc (.cells (ec e) 69)).heap.size;rw [zsI,hsx];omega
      have HGX:Hid ((WX.alloc (.cells (ec e) 69)).drew.heap[wr.heap.size]?=some (.cells (ec e) 69 (0,0))):=(zsG WX _ _ (by omega)).trans HPX.out;have HGN:Hid (∀ g,Value.ownBlock (.slice A' m c')=some g→g<wr.heap.size):=fun g hg=>(HLO.out.own.lt g hg).2;obtain ⟨r0,r1,r2,r3,r4,r5,r6,r7,r8,r9,r10⟩:=ecz (w:=(WX.alloc (.cells (ec e) 69)).drew) HGX.out;clear hWX hsx t1 t2;rcases HLO.out.form with ⟨rfl,rfl,rfl,rfl⟩|⟨g,rfl,hmc,hcm,hgl⟩
      ·have hh0:h=0:=by omega
       subst hh0;have hhi0:e.index-1-(base:Int)=0:=by omega
       have hwz:IntKind.u64.wrap 0=0:=by decide
       clear hhi hw2;have HOW:Hid ((WX.alloc (.cells (ec e) 69)).drew.ownsRow w.heap.size 69 11 (.slice none 0 0) 0 (flat ([]:List En))):=ztq _ _ _ _
       go_region_law (refine step_append_lies _ (by rfl) _ _ 54 (by rfl) w.heap.size 69 i28 (ev ezz) 11 104 Tryz.underlying54 hi28 hz28 hs28 hb28 (by rfl) (by omega) (.slice none 0 0) 0 (flat ([]:List En)) (by rfl) (by exact HOW.out) ⟨WX.heap.size,0,none⟩ 1 1 (ec e).toList (by rfl) rfl (by exact HNEWS.out) (fun u hu=>by simp at hu;rcases hu with rfl|rfl|rfl|rfl|rfl|rfl|rfl|rfl|rfl|rfl|rfl<;>rfl) (by omega) (by unfold maxLen;omega) (by omega) (by exact HBS.out) (WX.heap.size+1) (by simp) ?_;intro g4 cap w4 hown4 hgrow hat hlt4)
       all_goals
        have hL4:Hid (Le w.heap.size (some ⟨g4,0,none⟩) (0+1) cap (([]:List En).take 0++[e]) w4):=⟨by rw [zdx];exact hown4,rfl⟩;have hB4:Hid (Below w.heap.size w w4):=HBG.out.grown hgrow HBS.out (fun g hg=>by have:=(HOW.out.lt g hg).1;omega);have y1:w4.cell? ⟨wr.heap.size,1,none⟩=some (.int .u64 e.index):=(ztp (hgrow.block wr.heap.size HGS.out (fun hg=>by have:=HGN.out _ hg.symm;omega))).trans (zcr _ wr.heap.size 1 _ 69 (0,0) HGX.out);clear hown4 hgrow hat hlt4;go_wp2
        go_roundw
        case rel=>first|exact ⟨j+1,_,_,cap,_,by go_num,rfl,by rw [hix2.out],by omega,by omega,hnx,hL4.out,hB4.out⟩
        case measure=>simp [Go.RowKit.intOf];omega
      ·have HOW:Hid ((WX.alloc (.cells (ec e) 69)).drew.ownsRow w.heap.size 69 11 (.slice (some ⟨g,0,none⟩) h c') h (flat (out.take h))):=((HLX.out.take hhm).below zba).own;have hhc:¬ (c':Int)<(h:Int):=by omega
       have hhc2:(h:Int)≤(c':Int):=by omega
       go_region_law (refine step_append_lies _ (by rfl) _ _ 54 (by rfl) w.heap.size 69 i28 (ev ezz) 11 104 Tryz.underlying54 hi28 hz28 hs28 hb28 (by rfl) (by omega) (.slice (some ⟨g,0,none⟩) h c') h (flat (out.take h)) (by rfl) (by exact HOW.out) ⟨WX.heap.size,0,none⟩ 1 1 (ec e).toList (by rfl) rfl (by exact HNEWS.out) (fun u hu=>by simp at hu;rcases hu with rfl|rfl|rfl|rfl|rfl|rfl|rfl|rfl|rfl|rfl|rfl<;>rfl) (by omega) (by unfold maxLen;omega) (by omega) (by exact HBS.out) (WX.heap.size+1) (by simp) ?_;intro g4 cap w4 hown4 hgrow hat hlt4)
       all_goals
        have hL4:Hid (Le w.heap.size (some ⟨g4,0,none⟩) (h+1) cap (out.take h++[e]) w4):=⟨by rw [zdx];exact hown4,by rw [zsS,zsU,HLO.out.len];simp;omega⟩;have hB4:Hid (Below w.heap.size w w4):=HBG.out.grown hgrow HBS.out (fun g hg=>by have:=(HOW.out.lt g hg).1;omega);have y1:w4.cell? ⟨wr.heap.size,1,none⟩=some (.int .u64 e.index):=(ztp (hgrow.block wr.heap.size HGS.out (fun hg=>by have:=HGN.out _ hg.symm;omega))).trans (zcr _ wr.heap.size 1 _ 69 (0,0) HGX.out);clear hown4 hgrow hat hlt4;go_wp2
        go_roundw
        case rel=>first|exact ⟨j+1,_,_,cap,_,by go_num,rfl,by rw [hix2.out],by omega,by omega,hnx,hL4.out,hB4.out⟩
        case measure=>simp [Go.RowKit.intOf];omega
    ·have hF:more.drop j=[]:=zti (by rw [hml.out];omega);rw [hF] at hjn;have HLO:=zh hLo;clear hLo;go_wp2;go_ret2;exact ⟨.inl ⟨out,A',m,c',hjn.out.symm,rfl,HLO.out⟩,hbw⟩
end Go.Proofs.YtidndekacnmihaaGreat
