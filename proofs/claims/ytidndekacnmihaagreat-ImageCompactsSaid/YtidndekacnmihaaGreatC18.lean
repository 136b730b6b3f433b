/- Parts of a proof. -/
import Derived.Test.YtidndekacnmihaaGreatC08
import Derived.Test.YtidndekacnmihaaGreatC09
import Derived.Test.YtidndekacnmihaaGreatC17
set_option linter.all false
set_option maxHeartbeats 8000000
set_option maxRecDepth 100000
namespace Go.Proofs.YtidndekacnmihaaGreat
open Bool renaming false→J
open Ending renaming returned→E
open Go renaming World→F,Calls→G
open Go.RowKit renaming Below→A
open Go.RowKit.Below renaming refl→L
open IntKind renaming u64→p,i64→z
open Obj renaming cells→B
open Option renaming some→f,none→i
open Tryz renaming prog→C
open Value renaming int→j,string→r,tuple→H,bool→I
open Tryz
variable {P b:ByteArray} {v:Int} {w:F} {o:Bool}
open Go.RowKit
section
open Vi
def frP (v:Int) (o:Bool) (P:ByteArray):ByteArray:=if o then pack v P else ⟨#[]⟩
theorem zkf (e:En) (g:Nat) (P:ByteArray) (o:Bool) (w:F) (hm:w.heap[g]?=f (.map (two (fv 246) (fv 247)) 2)) (hK:∀ W,A w.heap.size w W→G C 246 #[ev e] W fun q w'=>q=E (H #[r P,I o])∧A W.heap.size W w') (hP:P.size≤1048576) :
 G C 245 #[.map (f g),j z 1,ev e] w fun q w'=>q=E (H #[r (frP 1 o P),I o])∧A w.heap.size w w':=by
 have b0:A w.heap.size w (w.alloc (B (ec e) 69)):=zba;have m0:(w.alloc (B (ec e) 69)).heap[g]?=f (.map (two (fv 246) (fv 247)) 2):=(ztQ _ _ _ (zgx hm)).trans hm;have hl:=zaD (T:=311) 1 (fv 246) underlying311 m0 (zed _ _);have K:=zh (hK _ b0);have KP:=zh (fun (W:F)=>zfc 1 P W (.inl rfl) hP);have HB:=zh b0;clear hK hP b0 m0 hm
 cases o with
 | false =>
   go_enter func245,ntmps245
   go_wp2_with fail
   refine K.out.mono ?_;rintro q w1 ⟨rfl,b1⟩;go_wp2;go_ret2;exact ⟨rfl,HB.out.trans (b1.mono HB.out.size)⟩
 | true =>
   go_enter func245,ntmps245
   go_wp2_with fail
   refine K.out.mono ?_;rintro q w1 ⟨rfl,b1⟩;have HB1:=zh (HB.out.trans (b1.mono HB.out.size));clear b1 hl
   go_wp2_with fail
   refine (KP.out _).mono ?_;rintro q w2 ⟨rfl,b2⟩;go_wp2;go_ret2;exact ⟨rfl,HB1.out.trans (b2.mono HB1.out.size)⟩
theorem zkg (e:En) (P:ByteArray) (o:Bool) (w:F) (hK:∀ W,A w.heap.size w W→G C 246 #[ev e] W fun q w'=>q=E (H #[r P,I o])∧A W.heap.size W w') (hP:P.size≤1048576) :
 G C 204 #[j z 1,ev e] w fun q w'=>q=E (H #[r (frP 1 o P),I o])∧A w.heap.size w w':=by
 have hmm:=@run_makeMap C;have b0:A w.heap.size w (w.alloc (B (ec e) 69)):=zba;have k0:(w.alloc (B (ec e) 69)).heap[w.heap.size]?=f (B (ec e) 69 (0,0)):=ztJ w _;have z0:(w.alloc (B (ec e) 69)).heap.size=w.heap.size+1:=by simp
 have bm:=b0.alloc (by omega) (.map #[] 0);obtain ⟨w1,e1,h1,b1,o1,s1⟩:=zaM (T:=311) 1 (fv 246) underlying311 (ztJ (w.alloc (B (ec e) 69)) (.map #[] 0)) rfl bm (by omega);obtain ⟨w2,e2,h2,b2,o2,s2⟩:=zaM (T:=311) 2 (fv 247) underlying311 h1 rfl b1 (by omega);have k2:w2.heap[w.heap.size]?=f (B (ec e) 69 (0,0)):=(o2 _ (by omega)).trans ((o1 _ (by omega)).trans ((ztQ _ _ _ (by omega)).trans k0));rw [z0] at e1 e2;have H2:Hid (w2.heap[w.heap.size+1]?=f (.map (two (fv 246) (fv 247)) 2)):=by show _=_;rw [←z0];exact h2
 have B2:=zh b2;have hsz:w2.heap.size=w.heap.size+2:=by rw [s2,s1];simp
 have K:=zh (zkf e (w.heap.size+1) P o w2 H2.out (fun W hW=>hK W (b2.trans (hW.mono (by omega)))) hP);have c0:w2.cell? ⟨w.heap.size,0,i⟩=f (j p e.term):=zcr w2 _ 0 _ 69 (0,0) k2;have c1:w2.cell? ⟨w.heap.size,1,i⟩=f (j p e.index):=zcr w2 _ 1 _ 69 (0,0) k2;have c2:w2.cell? ⟨w.heap.size,2,i⟩=f (j z e.kind):=zcr w2 _ 2 _ 69 (0,0) k2;have c3:w2.cell? ⟨w.heap.size,3,i⟩=f (j p e.client):=zcr w2 _ 3 _ 69 (0,0) k2;have c4:w2.cell? ⟨w.heap.size,4,i⟩=f (j p e.seq):=zcr w2 _ 4 _ 69 (0,0) k2;have c5:w2.cell? ⟨w.heap.size,5,i⟩=f (j p e.block):=zcr w2 _ 5 _ 69 (0,0) k2;have c6:w2.cell? ⟨w.heap.size,6,i⟩=f (j p e.many):=zcr w2 _ 6 _ 69 (0,0) k2;have c7:w2.cell? ⟨w.heap.size,7,i⟩=f (j z e.node):=zcr w2 _ 7 _ 69 (0,0) k2;have c8:w2.cell? ⟨w.heap.size,8,i⟩=f (j z e.level):=zcr w2 _ 8 _ 69 (0,0) k2;have c9:w2.cell? ⟨w.heap.size,9,i⟩=f (r e.data):=zcr w2 _ 9 _ 69 (0,0) k2;have c10:w2.cell? ⟨w.heap.size,10,i⟩=f (r e.old):=zcr w2 _ 10 _ 69 (0,0) k2;have HS:=zh hsz;clear h1 h2 b1 b2 o1 o2 s1 s2 k0 k2 bm hK hP hsz b0;go_enter func204,ntmps204
 go_wp2_with fail
 refine K.out.mono ?_;rintro q w3 ⟨rfl,b3⟩;go_wp2;go_ret2;exact ⟨rfl,B2.out.trans (b3.mono B2.out.size)⟩
theorem zkh (e:En) (g:Nat) (P:ByteArray) (o:Bool) (w:F) (hm:w.heap[g]?=f (.map (two (fv 246) (fv 247)) 2)) (hK:∀ W,A w.heap.size w W→G C 247 #[ev e] W fun q w'=>q=E (H #[r P,I o])∧A W.heap.size W w') (hP:P.size≤1048576) :
 G C 245 #[.map (f g),j z 2,ev e] w fun q w'=>q=E (H #[r (frP 2 o P),I o])∧A w.heap.size w w':=by
 have b0:A w.heap.size w (w.alloc (B (ec e) 69)):=zba;have m0:(w.alloc (B (ec e) 69)).heap[g]?=f (.map (two (fv 246) (fv 247)) 2):=(ztQ _ _ _ (zgx hm)).trans hm;have hl:=zaD (T:=311) 2 (fv 247) underlying311 m0 (zee _ _);have K:=zh (hK _ b0);have KP:=zh (fun (W:F)=>zfc 2 P W (.inr rfl) hP);have HB:=zh b0;clear hK hP b0 m0 hm
 cases o with
 | false =>
   go_enter func245,ntmps245
   go_wp2_with fail
   refine K.out.mono ?_;rintro q w1 ⟨rfl,b1⟩;go_wp2;go_ret2;exact ⟨rfl,HB.out.trans (b1.mono HB.out.size)⟩
 | true =>
   go_enter func245,ntmps245
   go_wp2_with fail
   refine K.out.mono ?_;rintro q w1 ⟨rfl,b1⟩;have HB1:=zh (HB.out.trans (b1.mono HB.out.size));clear b1 hl
   go_wp2_with fail
   refine (KP.out _).mono ?_;rintro q w2 ⟨rfl,b2⟩;go_wp2;go_ret2;exact ⟨rfl,HB1.out.trans (b2.mono HB1.out.size)⟩
theorem zki (e:En) (P:ByteArray) (o:Bool) (w:F) (hK:∀ W,A w.heap.size w W→G C 247 #[ev e] W fun q w'=>q=E (H #[r P,I o])∧A W.heap.size W w') (hP:P.size≤1048576) :
 G C 204 #[j z 2,ev e] w fun q w'=>q=E (H #[r (frP 2 o P),I o])∧A w.heap.size w w':=by
 have hmm:=@run_makeMap C;have b0:A w.heap.size w (w.alloc (B (ec e) 69)):=zba;have k0:(w.alloc (B (ec e) 69)).heap[w.heap.size]?=f (B (ec e) 69 (0,0)):=ztJ w _;have z0:(w.alloc (B (ec e) 69)).heap.size=w.heap.size+1:=by simp
 have bm:=b0.alloc (by omega) (.map #[] 0);obtain ⟨w1,e1,h1,b1,o1,s1⟩:=zaM (T:=311) 1 (fv 246) underlying311 (ztJ (w.alloc (B (ec e) 69)) (.map #[] 0)) rfl bm (by omega);obtain ⟨w2,e2,h2,b2,o2,s2⟩:=zaM (T:=311) 2 (fv 247) underlying311 h1 rfl b1 (by omega);have k2:w2.heap[w.heap.size]?=f (B (ec e) 69 (0,0)):=(o2 _ (by omega)).trans ((o1 _ (by omega)).trans ((ztQ _ _ _ (by omega)).trans k0));rw [z0] at e1 e2;have H2:Hid (w2.heap[w.heap.size+1]?=f (.map (two (fv 246) (fv 247)) 2)):=by show _=_;rw [←z0];exact h2
 have B2:=zh b2;have hsz:w2.heap.size=w.heap.size+2:=by rw [s2,s1];simp
 have K:=zh (zkh e (w.heap.size+1) P o w2 H2.out (fun W hW=>hK W (b2.trans (hW.mono (by omega)))) hP);have c0:w2.cell? ⟨w.heap.size,0,i⟩=f (j p e.term):=zcr w2 _ 0 _ 69 (0,0) k2;have c1:w2.cell? ⟨w.heap.size,1,i⟩=f (j p e.index):=zcr w2 _ 1 _ 69 (0,0) k2;have c2:w2.cell? ⟨w.heap.size,2,i⟩=f (j z e.kind):=zcr w2 _ 2 _ 69 (0,0) k2;have c3:w2.cell? ⟨w.heap.size,3,i⟩=f (j p e.client):=zcr w2 _ 3 _ 69 (0,0) k2;have c4:w2.cell? ⟨w.heap.size,4,i⟩=f (j p e.seq):=zcr w2 _ 4 _ 69 (0,0) k2;have c5:w2.cell? ⟨w.heap.size,5,i⟩=f (j p e.block):=zcr w2 _ 5 _ 69 (0,0) k2;have c6:w2.cell? ⟨w.heap.size,6,i⟩=f (j p e.many):=zcr w2 _ 6 _ 69 (0,0) k2;have c7:w2.cell? ⟨w.heap.size,7,i⟩=f (j z e.node):=zcr w2 _ 7 _ 69 (0,0) k2;have c8:w2.cell? ⟨w.heap.size,8,i⟩=f (j z e.level):=zcr w2 _ 8 _ 69 (0,0) k2;have c9:w2.cell? ⟨w.heap.size,9,i⟩=f (r e.data):=zcr w2 _ 9 _ 69 (0,0) k2;have c10:w2.cell? ⟨w.heap.size,10,i⟩=f (r e.old):=zcr w2 _ 10 _ 69 (0,0) k2;have HS:=zh hsz;clear h1 h2 b1 b2 o1 o2 s1 s2 k0 k2 bm hK hP hsz b0;go_enter func204,ntmps204
 go_wp2_with fail
 refine K.out.mono ?_;rintro q w3 ⟨rfl,b3⟩;go_wp2;go_ret2;exact ⟨rfl,B2.out.trans (b3.mono B2.out.size)⟩
end
section
open Vi
theorem zde {a:ByteArray} {x y:Bool} (h:a=b) (k:x=y):E (H #[r a,I x])=E (H #[r b,I y]):=by rw [h,k]
def zbx (e:En):ByteArray:=if zas e then sbE e else ⟨#[]⟩
theorem zpv (e:En) (w:F) (ok:e.Ok) :
 G C 247 #[ev e] w fun q w'=>q=E (H #[r (zbx e),I (zas e)])∧A w.heap.size w w':=by
 obtain ⟨W0,hW0⟩:∃ W0,W0=w.alloc (B (ec e) 69):=⟨_,rfl⟩;have b0:A w.heap.size w W0:=by rw [hW0];exact zba
 have k0:W0.heap[w.heap.size]?=f (B (ec e) 69 (0,0)):=by rw [hW0];exact ztJ w _
 have HW:=zh hW0;have HB:=zh b0;have HK:=zh k0;have KR:=zh (zbR e W0 ok);have HP:Hid (zbx e=if zas e then sbE e else ⟨#[]⟩):=rfl;have HF:Hid (zas e=true→zfY e):=fun h=>zg0 ok h;have HOK:=zh ok;obtain ⟨rb,hrb⟩:∃ rb,rb=zas e:=⟨_,rfl⟩;rw [←hrb] at KR HP HF ⊢;clear hW0 b0 k0 ok hrb
 cases rb with
 | false =>
   have HE:Hid (zbx e=⟨#[]⟩):=HP.out;go_enter func247,ntmps247
   go_wp2_with fail
   rw [←HW.out];refine KR.out.mono ?_;rintro q w1 ⟨rfl,b1⟩;go_wp2;go_ret2;exact ⟨zde HE.out.symm rfl,HB.out.trans (b1.mono HB.out.size)⟩
 | true =>
   have HE:Hid (zbx e=sbE e):=HP.out;have HFW:=zh (HF.out rfl);clear HP HF;go_enter func247,ntmps247
   go_wp2_with fail
   rw [←HW.out];refine KR.out.mono ?_;rintro q w1 ⟨rfl,b1⟩;have HB1:=zh (HB.out.trans (b1.mono HB.out.size));have HK1:=zh ((b1.block _ (zgx HK.out)).trans HK.out);clear b1 KR;have c0:w1.cell? ⟨w.heap.size,0,i⟩=f (j p e.term):=zcr w1 _ 0 _ 69 (0,0) HK1.out;have c1:w1.cell? ⟨w.heap.size,1,i⟩=f (j p e.index):=zcr w1 _ 1 _ 69 (0,0) HK1.out;have c2:w1.cell? ⟨w.heap.size,2,i⟩=f (j z e.kind):=zcr w1 _ 2 _ 69 (0,0) HK1.out;have c3:w1.cell? ⟨w.heap.size,3,i⟩=f (j p e.client):=zcr w1 _ 3 _ 69 (0,0) HK1.out;have c4:w1.cell? ⟨w.heap.size,4,i⟩=f (j p e.seq):=zcr w1 _ 4 _ 69 (0,0) HK1.out;have c5:w1.cell? ⟨w.heap.size,5,i⟩=f (j p e.block):=zcr w1 _ 5 _ 69 (0,0) HK1.out;have c6:w1.cell? ⟨w.heap.size,6,i⟩=f (j p e.many):=zcr w1 _ 6 _ 69 (0,0) HK1.out;have c7:w1.cell? ⟨w.heap.size,7,i⟩=f (j z e.node):=zcr w1 _ 7 _ 69 (0,0) HK1.out;have c8:w1.cell? ⟨w.heap.size,8,i⟩=f (j z e.level):=zcr w1 _ 8 _ 69 (0,0) HK1.out;have c9:w1.cell? ⟨w.heap.size,9,i⟩=f (r e.data):=zcr w1 _ 9 _ 69 (0,0) HK1.out;have c10:w1.cell? ⟨w.heap.size,10,i⟩=f (r e.old):=zcr w1 _ 10 _ 69 (0,0) HK1.out
   have K32:Hid (∀ W,A w1.heap.size w1 W→G C 284 #[] W fun q w'=>∃ b,q=E (.slice (f ⟨b,0,i⟩) 12 12)∧znV b w'∧A w.heap.size w w'∧w'.heap[w.heap.size]?=f (B (ec e) 69 (0,0))∧w'.cell? ⟨w.heap.size,0,i⟩=f (j p e.term)∧w'.cell? ⟨w.heap.size,1,i⟩=f (j p e.index)∧w'.cell? ⟨w.heap.size,2,i⟩=f (j z e.kind)∧w'.cell? ⟨w.heap.size,3,i⟩=f (j p e.client)∧w'.cell? ⟨w.heap.size,4,i⟩=f (j p e.seq)∧w'.cell? ⟨w.heap.size,5,i⟩=f (j p e.block)∧w'.cell? ⟨w.heap.size,6,i⟩=f (j p e.many)∧w'.cell? ⟨w.heap.size,7,i⟩=f (j z e.node)∧w'.cell? ⟨w.heap.size,8,i⟩=f (j z e.level)∧w'.cell? ⟨w.heap.size,9,i⟩=f (r e.data)∧w'.cell? ⟨w.heap.size,10,i⟩=f (r e.old)):=by
    intro W hW;refine (ziX W).mono ?_;rintro q w' ⟨b,h1,h2,h3⟩;have hb:=hW.trans (h3.mono hW.size);have hk:w'.heap[w.heap.size]?=f (B (ec e) 69 (0,0)):=(hb.block _ (zgx HK1.out)).trans HK1.out;exact ⟨b,h1,h2,HB1.out.trans (hb.mono HB1.out.size),hk,zcr w' _ 0 _ 69 (0,0) hk,zcr w' _ 1 _ 69 (0,0) hk,zcr w' _ 2 _ 69 (0,0) hk,zcr w' _ 3 _ 69 (0,0) hk,zcr w' _ 4 _ 69 (0,0) hk,zcr w' _ 5 _ 69 (0,0) hk,zcr w' _ 6 _ 69 (0,0) hk,zcr w' _ 7 _ 69 (0,0) hk,zcr w' _ 8 _ 69 (0,0) hk,zcr w' _ 9 _ 69 (0,0) hk,zcr w' _ 10 _ 69 (0,0) hk⟩
   have K31:Hid (∀ (b:Nat) (W:F),znV b W→A w.heap.size w W→W.heap[w.heap.size]?=f (B (ec e) 69 (0,0))→G C 283 #[.slice (f ⟨b,0,i⟩) 12 12,ev e] W fun q w'=>q=E (r (sbE e))∧A w.heap.size w w'∧w'.cell? ⟨w.heap.size,0,i⟩=f (j p e.term)∧w'.cell? ⟨w.heap.size,1,i⟩=f (j p e.index)∧w'.cell? ⟨w.heap.size,2,i⟩=f (j z e.kind)∧w'.cell? ⟨w.heap.size,3,i⟩=f (j p e.client)∧w'.cell? ⟨w.heap.size,4,i⟩=f (j p e.seq)∧w'.cell? ⟨w.heap.size,5,i⟩=f (j p e.block)∧w'.cell? ⟨w.heap.size,6,i⟩=f (j p e.many)∧w'.cell? ⟨w.heap.size,7,i⟩=f (j z e.node)∧w'.cell? ⟨w.heap.size,8,i⟩=f (j z e.level)∧w'.cell? ⟨w.heap.size,9,i⟩=f (r e.data)∧w'.cell? ⟨w.heap.size,10,i⟩=f (r e.old)):=by
    intro b W h1 h2 hk;refine (zgZ b e W HOK.out HFW.out h1).mono fun q w' ⟨h3,h4⟩=>?_;have hk2:w'.heap[w.heap.size]?=f (B (ec e) 69 (0,0)):=(h4.block _ (zgx hk)).trans hk;exact ⟨h3,h2.trans (h4.mono h2.size),zcr w' _ 0 _ 69 (0,0) hk2,zcr w' _ 1 _ 69 (0,0) hk2,zcr w' _ 2 _ 69 (0,0) hk2,zcr w' _ 3 _ 69 (0,0) hk2,zcr w' _ 4 _ 69 (0,0) hk2,zcr w' _ 5 _ 69 (0,0) hk2,zcr w' _ 6 _ 69 (0,0) hk2,zcr w' _ 7 _ 69 (0,0) hk2,zcr w' _ 8 _ 69 (0,0) hk2,zcr w' _ 9 _ 69 (0,0) hk2,zcr w' _ 10 _ 69 (0,0) hk2⟩
   have bd:A w1.heap.size w1 w1.drew:=(L _ w1).drew
   go_wp2_with fail
   go_region_held3 (fun w'=>w'.cell? ⟨w.heap.size,0,i⟩=f (j p e.term)∧w'.cell? ⟨w.heap.size,1,i⟩=f (j p e.index)∧w'.cell? ⟨w.heap.size,2,i⟩=f (j z e.kind)∧w'.cell? ⟨w.heap.size,3,i⟩=f (j p e.client)∧w'.cell? ⟨w.heap.size,4,i⟩=f (j p e.seq)∧w'.cell? ⟨w.heap.size,5,i⟩=f (j p e.block)∧w'.cell? ⟨w.heap.size,6,i⟩=f (j p e.many)∧w'.cell? ⟨w.heap.size,7,i⟩=f (j z e.node)∧w'.cell? ⟨w.heap.size,8,i⟩=f (j z e.level)∧w'.cell? ⟨w.heap.size,9,i⟩=f (r e.data)∧w'.cell? ⟨w.heap.size,10,i⟩=f (r e.old)) (first|exact ⟨c0,c1,c2,c3,c4,c5,c6,c7,c8,c9,c10⟩|(refine ⟨?_,?_,?_,?_,?_,?_,?_,?_,?_,?_,?_⟩<;>assumption)) (first
    | (go_at_call 284;(with_reducible refine (K32.out _ bd).mono ?_);rintro q w2 ⟨fb,rfl,hf,hb2,hk2,d0,d1,d2,d3,d4,d5,d6,d7,d8,d9,d10⟩)
    | (go_at_call 283;(with_reducible refine (K31.out _ _ hf hb2 hk2).mono ?_);rintro q w3 ⟨rfl,hb3,g0,g1,g2,g3,g4,g5,g6,g7,g8,g9,g10⟩))
   go_wp2_with fail
   go_ret2;exact ⟨zde HE.out.symm rfl,hb3⟩
end
section
open Vi
theorem zpZ (hv:v=1∨v=2) (hb:b.size≤1048576):pkO v b=true:=by
 unfold pkO;rw [ztN hb];rcases hv with rfl|rfl<;>rfl
theorem zpW {e:En} (ok:e.Ok) (h:zas e=true):(sbE e).size≤1000:=by
 have fw:=zg0 ok h;have h1:=zgY ok fw 11 (by omega);have h2:=zbD 0 (by omega);unfold sbE zb0;rw [ztS];omega
end
section
open Vi
theorem zkj (e:En) (v:Int) (h1:v≠1) (h2:v≠2) (g:Nat) (w:F) (hm:w.heap[g]?=f (.map (two (fv 246) (fv 247)) 2)) :
 G C 245 #[.map (f g),j z v,ev e] w fun q w'=>q=E (H #[r ⟨#[]⟩,I J])∧A w.heap.size w w':=by
 have b0:A w.heap.size w (w.alloc (B (ec e) 69)):=zba;have m0:(w.alloc (B (ec e) 69)).heap[g]?=f (.map (two (fv 246) (fv 247)) 2):=(ztQ _ _ _ (zgx hm)).trans hm;have hl:=zce (T:=311) v underlying311 zeroValue285 m0 (zkq _ _ v h1 h2);have HB:=zh b0;clear b0 m0 hm h1 h2;go_enter func245,ntmps245;go_wp2;go_ret2;exact ⟨rfl,HB.out⟩
theorem zkk (e:En) (v:Int) (hv1:v≠1) (hv2:v≠2) (w:F) :
 G C 204 #[j z v,ev e] w fun q w'=>q=E (H #[r ⟨#[]⟩,I J])∧A w.heap.size w w':=by
 have hmm:=@run_makeMap C;have b0:A w.heap.size w (w.alloc (B (ec e) 69)):=zba;have k0:(w.alloc (B (ec e) 69)).heap[w.heap.size]?=f (B (ec e) 69 (0,0)):=ztJ w _;have z0:(w.alloc (B (ec e) 69)).heap.size=w.heap.size+1:=by simp
 have bm:=b0.alloc (by omega) (.map #[] 0);obtain ⟨w1,e1,h1,b1,o1,s1⟩:=zaM (T:=311) 1 (fv 246) underlying311 (ztJ (w.alloc (B (ec e) 69)) (.map #[] 0)) rfl bm (by omega);obtain ⟨w2,e2,h2,b2,o2,s2⟩:=zaM (T:=311) 2 (fv 247) underlying311 h1 rfl b1 (by omega);have k2:w2.heap[w.heap.size]?=f (B (ec e) 69 (0,0)):=(o2 _ (by omega)).trans ((o1 _ (by omega)).trans ((ztQ _ _ _ (by omega)).trans k0));rw [z0] at e1 e2;have H2:Hid (w2.heap[w.heap.size+1]?=f (.map (two (fv 246) (fv 247)) 2)):=by show _=_;rw [←z0];exact h2
 have B2:=zh b2;have K:=zh (zkj e v hv1 hv2 (w.heap.size+1) w2 H2.out);have c0:w2.cell? ⟨w.heap.size,0,i⟩=f (j p e.term):=zcr w2 _ 0 _ 69 (0,0) k2;have c1:w2.cell? ⟨w.heap.size,1,i⟩=f (j p e.index):=zcr w2 _ 1 _ 69 (0,0) k2;have c2:w2.cell? ⟨w.heap.size,2,i⟩=f (j z e.kind):=zcr w2 _ 2 _ 69 (0,0) k2;have c3:w2.cell? ⟨w.heap.size,3,i⟩=f (j p e.client):=zcr w2 _ 3 _ 69 (0,0) k2;have c4:w2.cell? ⟨w.heap.size,4,i⟩=f (j p e.seq):=zcr w2 _ 4 _ 69 (0,0) k2;have c5:w2.cell? ⟨w.heap.size,5,i⟩=f (j p e.block):=zcr w2 _ 5 _ 69 (0,0) k2;have c6:w2.cell? ⟨w.heap.size,6,i⟩=f (j p e.many):=zcr w2 _ 6 _ 69 (0,0) k2;have c7:w2.cell? ⟨w.heap.size,7,i⟩=f (j z e.node):=zcr w2 _ 7 _ 69 (0,0) k2;have c8:w2.cell? ⟨w.heap.size,8,i⟩=f (j z e.level):=zcr w2 _ 8 _ 69 (0,0) k2;have c9:w2.cell? ⟨w.heap.size,9,i⟩=f (r e.data):=zcr w2 _ 9 _ 69 (0,0) k2;have c10:w2.cell? ⟨w.heap.size,10,i⟩=f (r e.old):=zcr w2 _ 10 _ 69 (0,0) k2;clear h1 h2 b1 b2 o1 o2 s1 s2 k0 k2 bm b0 hv1 hv2;go_enter func204,ntmps204
 go_wp2_with fail
 refine K.out.mono ?_;rintro q w3 ⟨rfl,b3⟩;go_wp2;go_ret2;exact ⟨rfl,B2.out.trans (b3.mono B2.out.size)⟩
end
section
open Vi
def rfP (v:Int) (o:Bool) (P:ByteArray):ByteArray:=if o then pkS v P else ⟨#[]⟩
theorem ecl {b:Nat} {e:En} (h:w.heap[b]?=f (B (ec e) 69 (0,0))):w.cell? ⟨b,0,i⟩=f (j p e.term)∧w.cell? ⟨b,1,i⟩=f (j p e.index)∧w.cell? ⟨b,2,i⟩=f (j z e.kind)∧w.cell? ⟨b,3,i⟩=f (j p e.client)∧w.cell? ⟨b,4,i⟩=f (j p e.seq)∧w.cell? ⟨b,5,i⟩=f (j p e.block)∧w.cell? ⟨b,6,i⟩=f (j p e.many)∧w.cell? ⟨b,7,i⟩=f (j z e.node)∧w.cell? ⟨b,8,i⟩=f (j z e.level)∧w.cell? ⟨b,9,i⟩=f (r e.data)∧w.cell? ⟨b,10,i⟩=f (r e.old):=⟨zcr w _ 0 _ 69 (0,0) h,zcr w _ 1 _ 69 (0,0) h,zcr w _ 2 _ 69 (0,0) h,zcr w _ 3 _ 69 (0,0) h,zcr w _ 4 _ 69 (0,0) h,zcr w _ 5 _ 69 (0,0) h,zcr w _ 6 _ 69 (0,0) h,zcr w _ 7 _ 69 (0,0) h,zcr w _ 8 _ 69 (0,0) h,zcr w _ 9 _ 69 (0,0) h,zcr w _ 10 _ 69 (0,0) h⟩
theorem zkl (e:En) (v:Int) (hv:v≠2) (P1:ByteArray) (o1:Bool) (w:F) (hK1:∀ W,A w.heap.size w W→G C 217 #[ev e] W fun q w'=>q=E (H #[r P1,I o1])∧A W.heap.size W w') :
 G C 174 #[j z v,ev e] w fun q w'=>q=E (H #[r (rfP v o1 P1),I (o1&&pkO v P1)])∧A w.heap.size w w':=by
 obtain ⟨W0,hW0⟩:∃ W0,W0=w.alloc (B (ec e) 69):=⟨_,rfl⟩;have b0:A w.heap.size w W0:=by rw [hW0];exact zba
 have k0:W0.heap[w.heap.size]?=f (B (ec e) 69 (0,0)):=by rw [hW0];exact ztJ w _
 obtain ⟨c0,c1,c2,c3,c4,c5,c6,c7,c8,c9,c10⟩:=ecl k0;have K1:=zh hK1;have KP:=zh (fun (W:F)=>zcR v P1 W);obtain ⟨R,hR⟩:∃ R,R=pkS v P1:=⟨_,rfl⟩;obtain ⟨s,hs⟩:∃ s,s=pkO v P1:=⟨_,rfl⟩;rw [←hR,←hs] at KP;have HRS:Hid (rfP v true P1=R):=hR.symm;have HRF:Hid (rfP v J P1=⟨#[]⟩):=rfl;rw [←hs];clear hR hs;have HW0:=zh hW0;have HB0:=zh b0;have hv2:(v==2)=J:=by simpa using hv
 clear hW0 b0 k0 hK1;go_enter func174,ntmps174
 go_wp2_with fail
 rw [←HW0.out];refine (K1.out W0 HB0.out).mono ?_;rintro q w1 ⟨rfl,b1⟩;have HB1:=zh (HB0.out.trans (b1.mono HB0.out.size));clear b1 c0 c1 c2 c3 c4 c5 c6 c7 c8 c9 c10
 cases o1 with
 | false =>
   go_wp2;go_ret2;exact ⟨by rw [HRF.out];rfl,HB1.out⟩
 | true =>
   go_wp2_with fail
   refine (KP.out _).mono ?_;rintro q w3 ⟨rfl,b3⟩;go_wp2;go_ret2;exact ⟨by rw [HRS.out];rfl,HB1.out.trans (b3.mono HB1.out.size)⟩
theorem zkm (e:En) (P1 P2:ByteArray) (o1 o2:Bool) (w:F) (hK1:∀ W,A w.heap.size w W→G C 217 #[ev e] W fun q w'=>q=E (H #[r P1,I o1])∧A W.heap.size W w') (hK2:∀ W,A w.heap.size w W→G C 218 #[ev e] W fun q w'=>q=E (H #[r P2,I o2])∧A W.heap.size W w') :
 G C 174 #[j z 2,ev e] w fun q w'=>q=E (H #[r (rfP 2 o2 P2),I (o2&&pkO 2 P2)])∧A w.heap.size w w':=by
 obtain ⟨W0,hW0⟩:∃ W0,W0=w.alloc (B (ec e) 69):=⟨_,rfl⟩;have b0:A w.heap.size w W0:=by rw [hW0];exact zba
 have k0:W0.heap[w.heap.size]?=f (B (ec e) 69 (0,0)):=by rw [hW0];exact ztJ w _
 obtain ⟨c0,c1,c2,c3,c4,c5,c6,c7,c8,c9,c10⟩:=ecl k0;have K1:=zh hK1;have K2:=zh hK2;have KP:=zh (fun (W:F)=>zcR 2 P2 W);obtain ⟨R,hR⟩:∃ R,R=pkS 2 P2:=⟨_,rfl⟩;obtain ⟨s,hs⟩:∃ s,s=pkO 2 P2:=⟨_,rfl⟩;rw [←hR,←hs] at KP;have HRS:Hid (rfP 2 true P2=R):=hR.symm;have HRF:Hid (rfP 2 J P2=⟨#[]⟩):=rfl;rw [←hs];clear hR hs;have HW0:=zh hW0;have HB0:=zh b0;have HK0:=zh k0;clear hW0 b0 k0 hK1 hK2;go_enter func174,ntmps174
 go_wp2_with fail
 rw [←HW0.out];refine (K1.out W0 HB0.out).mono ?_;rintro q w1 ⟨rfl,b1⟩;have HB1:=zh (HB0.out.trans (b1.mono HB0.out.size));have k1:w1.heap[w.heap.size]?=f (B (ec e) 69 (0,0)):=(b1.block _ (zgx HK0.out)).trans HK0.out;clear b1 c0 c1 c2 c3 c4 c5 c6 c7 c8 c9 c10;obtain ⟨c0,c1,c2,c3,c4,c5,c6,c7,c8,c9,c10⟩:=ecl k1;clear k1
 go_wp2_with fail
 refine (K2.out w1 HB1.out).mono ?_;rintro q w2 ⟨rfl,b2⟩;have HB2:=zh (HB1.out.trans (b2.mono HB1.out.size));clear b2 c0 c1 c2 c3 c4 c5 c6 c7 c8 c9 c10
 cases o2 with
 | false =>
   go_wp2;go_ret2;exact ⟨by rw [HRF.out];rfl,HB2.out⟩
 | true =>
   go_wp2_with fail
   refine (KP.out _).mono ?_;rintro q w3 ⟨rfl,b3⟩;go_wp2;go_ret2;exact ⟨by rw [HRS.out];rfl,HB2.out.trans (b3.mono HB2.out.size)⟩
end
namespace D
open Go.RowKit
open Vi
def rdn (t:Nat) (P:ByteArray):ByteArray:=if P.size=0 then ⟨#[]⟩ else zaE t++P
theorem zcP (t:Nat) (P:ByteArray) (ht:t<12) (h:P.size≤74):(rdn t P).size≤84:=by
 unfold rdn
 split
 ·exact ztO _
 ·rw [ztS]
  have:=zbD t (by omega)
  omega
section
theorem zix (t n:Nat) (w:F) (ht:t<12) (hn:n<18446744073709551616) :
 G C 260 #[j p t,j p n] w fun e w'=>e=E (r (rdn t (nb n)))∧A w.heap.size w w':=by
 by_cases h0:n=0
 ·subst h0;have e0:rdn t (nb ((0:Nat):Int))=⟨#[]⟩:=rfl;rw [e0];clear e0;go_enter func260,ntmps260;go_wp2;go_ret;exact ⟨rfl,L _ _⟩
 ·have e0:rdn t (nb (n:Int))=zaE t++zaE n:=by
   have e1:nb (n:Int)=zaE n:=by unfold nb;rw [if_neg (by omega),ztV]
   have:=zel n
   unfold rdn;rw [e1,if_neg (by omega)]
  have e1:((n:Int)==0)=J:=by simp;omega
  have k1:=zbD t (by omega);have k2:=zbD n hn;have K1:=zh (fun W=>zbH t W (by omega));have K2:=zh (fun W=>zbH n W hn);rw [e0];clear e0 h0 hn ht;have hsz:¬ 9223372036854775807<(zaE t).size+(zaE n).size:=by omega
  go_enter func260,ntmps260
  go_wp2_with fail
  refine (K1.out _).mono ?_;rintro e w1 ⟨rfl,b1⟩
  go_wp2_with fail
  refine (K2.out _).mono ?_;rintro e w2 ⟨rfl,b2⟩;go_wp2;go_ret;exact ⟨rfl,b1.trans (b2.mono b1.size)⟩
theorem zke (t:Nat) (d:ByteArray) (w:F) (ht:t<12) (hd:d.size≤64) :
 G C 261 #[j p t,r d] w fun e w'=>e=E (r (rdn t (tb d)))∧A w.heap.size w w':=by
 by_cases h0:d.size=0
 ·have hde:=(zpw d).1 h0;subst hde;have e0:rdn t (tb ⟨#[]⟩)=⟨#[]⟩:=rfl;rw [e0];clear e0 h0;go_enter func261,ntmps261;go_wp2;go_ret;exact ⟨rfl,L _ _⟩
 ·have e0:rdn t (tb d)=zaE t++(zaE d.size++d):=by
   have e1:tb d=zaE d.size++d:=by unfold tb;rw [if_neg h0]
   have:=zel d.size
   unfold rdn;rw [e1,if_neg (by rw [ztS];omega)]
  have h2:¬ d=ByteArray.empty:=fun e=>h0 (by rw [e];rfl)
  have h3:¬ d.toList=[]:=by
   rw [zur];intro e
   have:=congrArg List.length e
   exact h0 (by simpa using this)
  have h6:d.toList.isEmpty=J:=by
   cases hq:d.toList with
   | nil=>exact absurd hq h3
   | cons a l=>rfl
  have k1:=zbD t (by omega);have k2:=zbD d.size (by omega);have K1:=zh (fun W=>zbH t W (by omega));have K2:=zh (fun W=>zmP d W (by omega));rw [e0];clear e0 h0 ht;have hsz:¬ 9223372036854775807<(zaE t).size+(zaE d.size++d).size:=by rw [ztS];omega
  have hsz2:¬ 9223372036854775807<(zaE t).size+((zaE d.size).size+d.size):=by omega
  go_enter func261,ntmps261
  go_wp2_with fail
  refine (K1.out _).mono ?_;rintro e w1 ⟨rfl,b1⟩
  go_wp2_with fail
  refine (K2.out _).mono ?_;rintro e w2 ⟨rfl,b2⟩;go_wp2;go_ret;exact ⟨rfl,b1.trans (b2.mono b1.size)⟩
end
structure Bq (w0:F) (e:En) (w:F):Prop where
 k:w.heap[w0.heap.size]?=f (B (ec e) 69 (0,0))
 be:A w0.heap.size w0 w
theorem Bq.on {w0 w1:F} {e:En} (h:Bq w0 e w) (hb:A w.heap.size w w1):Bq w0 e w1 :=
 ⟨(hb.block _ (zgx h.k)).trans h.k,h.be.trans (hb.mono h.be.size)⟩
theorem Bq.all {w':F} {e:En} (h:Bq w e w'):Bq w e w'∧w'.cell? ⟨w.heap.size,0,i⟩=f (j p e.term)∧w'.cell? ⟨w.heap.size,1,i⟩=f (j p e.index)∧w'.cell? ⟨w.heap.size,2,i⟩=f (j z e.kind)∧w'.cell? ⟨w.heap.size,3,i⟩=f (j p e.client)∧w'.cell? ⟨w.heap.size,4,i⟩=f (j p e.seq)∧w'.cell? ⟨w.heap.size,5,i⟩=f (j p e.block)∧w'.cell? ⟨w.heap.size,6,i⟩=f (j p e.many)∧w'.cell? ⟨w.heap.size,7,i⟩=f (j z e.node)∧w'.cell? ⟨w.heap.size,8,i⟩=f (j z e.level)∧w'.cell? ⟨w.heap.size,9,i⟩=f (r e.data)∧w'.cell? ⟨w.heap.size,10,i⟩=f (r e.old) :=
 ⟨h,zcr w' _ 0 _ 69 (0,0) h.k,zcr w' _ 1 _ 69 (0,0) h.k,zcr w' _ 2 _ 69 (0,0) h.k,zcr w' _ 3 _ 69 (0,0) h.k,zcr w' _ 4 _ 69 (0,0) h.k,zcr w' _ 5 _ 69 (0,0) h.k,zcr w' _ 6 _ 69 (0,0) h.k,zcr w' _ 7 _ 69 (0,0) h.k,zcr w' _ 8 _ 69 (0,0) h.k,zcr w' _ 9 _ 69 (0,0) h.k,zcr w' _ 10 _ 69 (0,0) h.k⟩
theorem zrX (e:En):sbE e=rdn 1 (nb e.kind)++rdn 2 (nb e.term)++rdn 3 (nb e.index)++rdn 4 (nb e.client)++rdn 5 (nb e.seq)++rdn 6 (nb e.block)++rdn 7 (nb e.many)++rdn 8 (nb e.node)++rdn 9 (nb e.level)++rdn 10 (tb e.data)++rdn 11 (tb e.old)++⟨#[0]⟩:=by
 have h0:zaE 0=⟨#[0]⟩:=by unfold zaE;rw [zbw 0 (by omega)];rfl
 unfold sbE zb0;rw [h0];have hs:∀ k,zdA eF e (k+1)=zdA eF e k++rdn (k+1) (fP (k+1) e):=fun k=>rfl;have h00:zdA eF e 0=⟨#[]⟩:=rfl;rw [hs 10,hs 9,hs 8,hs 7,hs 6,hs 5,hs 4,hs 3,hs 2,hs 1,hs 0,h00,ziY];rfl
theorem zlp (e:En) (w:F) (ok:e.Ok) :
 G C 218 #[ev e] w fun q w'=>q=E (H #[r (zbx e),I (zas e)])∧A w.heap.size w w':=by
 obtain ⟨W0,hW0⟩:∃ W0,W0=w.alloc (B (ec e) 69):=⟨_,rfl⟩
 have S0:Bq w e W0:=by
  rw [hW0];exact ⟨ztJ w _,zba⟩
 have KR:=zh (fun (W:F) (h:Bq w e W)=>(zaY e W ok).mono fun q w' ⟨h1,h2⟩=>And.intro h1 (h.on h2).all);have HW:=zh hW0;have HP:Hid (zbx e=if zas e then sbE e else ⟨#[]⟩):=rfl;have S1:=zh S0;clear hW0 S0;obtain ⟨rb,hrb⟩:∃ rb,rb=zas e:=⟨_,rfl⟩;rw [←hrb] at KR HP ⊢
 cases rb with
 | false =>
   have HE:Hid (zbx e=⟨#[]⟩):=HP.out;clear hrb;go_enter func218,ntmps218
   go_wp2_with fail
   rw [←HW.out];refine (KR.out _ S1.out).mono ?_;rintro q w1 ⟨rfl,T,_⟩;go_wp2;go_ret2;exact ⟨zde HE.out.symm rfl,T.be⟩
 | true =>
   have HE:Hid (zbx e=sbE e):=HP.out;have fw:=zg0 ok hrb.symm;obtain ⟨a1,a2,a3,a4,a5,a6,a7,a8,a9,a10,a11⟩:=zg1 ok fw;have l1:=zcP 1 (nb e.kind) (by omega) (zem ok fw 1);have l2:=zcP 2 (nb e.term) (by omega) (zem ok fw 2);have l3:=zcP 3 (nb e.index) (by omega) (zem ok fw 3);have l4:=zcP 4 (nb e.client) (by omega) (zem ok fw 4);have l5:=zcP 5 (nb e.seq) (by omega) (zem ok fw 5);have l6:=zcP 6 (nb e.block) (by omega) (zem ok fw 6);have l7:=zcP 7 (nb e.many) (by omega) (zem ok fw 7);have l8:=zcP 8 (nb e.node) (by omega) (zem ok fw 8);have l9:=zcP 9 (nb e.level) (by omega) (zem ok fw 9);have l10:=zcP 10 (tb e.data) (by omega) (zem ok fw 10);have l11:=zcP 11 (tb e.old) (by omega) (zem ok fw 11);have y1:¬ 9223372036854775807<(rdn 1 (nb e.kind)).size+(rdn 2 (nb e.term)).size:=by omega
   have y2:¬ 9223372036854775807<(rdn 1 (nb e.kind)).size+(rdn 2 (nb e.term)).size+(rdn 3 (nb e.index)).size:=by omega
   have y3:¬ 9223372036854775807<(rdn 1 (nb e.kind)).size+(rdn 2 (nb e.term)).size+(rdn 3 (nb e.index)).size+(rdn 4 (nb e.client)).size:=by omega
   have y4:¬ 9223372036854775807<(rdn 1 (nb e.kind)).size+(rdn 2 (nb e.term)).size+(rdn 3 (nb e.index)).size+(rdn 4 (nb e.client)).size+(rdn 5 (nb e.seq)).size:=by omega
   have y5:¬ 9223372036854775807<(rdn 1 (nb e.kind)).size+(rdn 2 (nb e.term)).size+(rdn 3 (nb e.index)).size+(rdn 4 (nb e.client)).size+(rdn 5 (nb e.seq)).size+(rdn 6 (nb e.block)).size:=by omega
   have y6:¬ 9223372036854775807<(rdn 1 (nb e.kind)).size+(rdn 2 (nb e.term)).size+(rdn 3 (nb e.index)).size+(rdn 4 (nb e.client)).size+(rdn 5 (nb e.seq)).size+(rdn 6 (nb e.block)).size+(rdn 7 (nb e.many)).size:=by omega
   have y7:¬ 9223372036854775807<(rdn 1 (nb e.kind)).size+(rdn 2 (nb e.term)).size+(rdn 3 (nb e.index)).size+(rdn 4 (nb e.client)).size+(rdn 5 (nb e.seq)).size+(rdn 6 (nb e.block)).size+(rdn 7 (nb e.many)).size+(rdn 8 (nb e.node)).size:=by omega
   have y8:¬ 9223372036854775807<(rdn 1 (nb e.kind)).size+(rdn 2 (nb e.term)).size+(rdn 3 (nb e.index)).size+(rdn 4 (nb e.client)).size+(rdn 5 (nb e.seq)).size+(rdn 6 (nb e.block)).size+(rdn 7 (nb e.many)).size+(rdn 8 (nb e.node)).size+(rdn 9 (nb e.level)).size:=by omega
   have y9:¬ 9223372036854775807<(rdn 1 (nb e.kind)).size+(rdn 2 (nb e.term)).size+(rdn 3 (nb e.index)).size+(rdn 4 (nb e.client)).size+(rdn 5 (nb e.seq)).size+(rdn 6 (nb e.block)).size+(rdn 7 (nb e.many)).size+(rdn 8 (nb e.node)).size+(rdn 9 (nb e.level)).size+(rdn 10 (tb e.data)).size:=by omega
   have y10:¬ 9223372036854775807<(rdn 1 (nb e.kind)).size+(rdn 2 (nb e.term)).size+(rdn 3 (nb e.index)).size+(rdn 4 (nb e.client)).size+(rdn 5 (nb e.seq)).size+(rdn 6 (nb e.block)).size+(rdn 7 (nb e.many)).size+(rdn 8 (nb e.node)).size+(rdn 9 (nb e.level)).size+(rdn 10 (tb e.data)).size+(rdn 11 (tb e.old)).size:=by omega
   have y11:¬ 9223372036854775807<(rdn 1 (nb e.kind)).size+(rdn 2 (nb e.term)).size+(rdn 3 (nb e.index)).size+(rdn 4 (nb e.client)).size+(rdn 5 (nb e.seq)).size+(rdn 6 (nb e.block)).size+(rdn 7 (nb e.many)).size+(rdn 8 (nb e.node)).size+(rdn 9 (nb e.level)).size+(rdn 10 (tb e.data)).size+(rdn 11 (tb e.old)).size+1:=by omega
   have hk1:p.wrap e.kind=e.kind:=IntWalk.u64_in _ (by omega);have hk2:p.wrap e.node=e.node:=IntWalk.u64_in _ (by omega);have hk3:p.wrap e.level=e.level:=IntWalk.u64_in _ (by omega)
   have KN:Hid (∀ (t:Nat) (tt v:Int) (W:F),tt=(t:Int)→t<12→(0≤v∧v≤18446744073709551615)→Bq w e W→G C 260 #[j p tt,j p v] W fun q w'=>q=E (r (rdn t (nb v)))∧Bq w e w'∧w'.cell? ⟨w.heap.size,0,i⟩=f (j p e.term)∧w'.cell? ⟨w.heap.size,1,i⟩=f (j p e.index)∧w'.cell? ⟨w.heap.size,2,i⟩=f (j z e.kind)∧w'.cell? ⟨w.heap.size,3,i⟩=f (j p e.client)∧w'.cell? ⟨w.heap.size,4,i⟩=f (j p e.seq)∧w'.cell? ⟨w.heap.size,5,i⟩=f (j p e.block)∧w'.cell? ⟨w.heap.size,6,i⟩=f (j p e.many)∧w'.cell? ⟨w.heap.size,7,i⟩=f (j z e.node)∧w'.cell? ⟨w.heap.size,8,i⟩=f (j z e.level)∧w'.cell? ⟨w.heap.size,9,i⟩=f (r e.data)∧w'.cell? ⟨w.heap.size,10,i⟩=f (r e.old)):=by
    intro t tt v W htt ht hv hW;subst htt;obtain ⟨n,rfl⟩:=ztW hv.1;exact (zix t n W ht (by omega)).mono fun q w' ⟨h1,h2⟩=>⟨h1,(hW.on h2).all⟩
   have KT:Hid (∀ (t:Nat) (tt:Int) (d:ByteArray) (W:F),tt=(t:Int)→t<12→d.size≤64→Bq w e W→G C 261 #[j p tt,r d] W fun q w'=>q=E (r (rdn t (tb d)))∧Bq w e w'∧w'.cell? ⟨w.heap.size,0,i⟩=f (j p e.term)∧w'.cell? ⟨w.heap.size,1,i⟩=f (j p e.index)∧w'.cell? ⟨w.heap.size,2,i⟩=f (j z e.kind)∧w'.cell? ⟨w.heap.size,3,i⟩=f (j p e.client)∧w'.cell? ⟨w.heap.size,4,i⟩=f (j p e.seq)∧w'.cell? ⟨w.heap.size,5,i⟩=f (j p e.block)∧w'.cell? ⟨w.heap.size,6,i⟩=f (j p e.many)∧w'.cell? ⟨w.heap.size,7,i⟩=f (j z e.node)∧w'.cell? ⟨w.heap.size,8,i⟩=f (j z e.level)∧w'.cell? ⟨w.heap.size,9,i⟩=f (r e.data)∧w'.cell? ⟨w.heap.size,10,i⟩=f (r e.old)):=fun t tt d W htt ht hd hW=>htt▸(zke t d W ht hd).mono fun q w' ⟨h1,h2⟩=>⟨h1,(hW.on h2).all⟩;clear HP hrb fw l1 l2 l3 l4 l5 l6 l7 l8 l9 l10 l11;have q1:0≤e.kind∧e.kind≤18446744073709551615:=by omega
   have q8:0≤e.node∧e.node≤18446744073709551615:=by omega
   have q9:0≤e.level∧e.level≤18446744073709551615:=by omega
   clear a1 a8 a9;go_enter func218,ntmps218
   go_wp2_with fail
   rw [←HW.out];refine (KR.out _ S1.out).mono ?_;rintro q w1 ⟨rfl,T,d0,d1,d2,d3,d4,d5,d6,d7,d8,d9,d10⟩
   go_upto_region 4 with fail
   have Td:Bq w e w1.drew:=T.on (L _ w1).drew;clear KR S1
   go_region_held3 (fun w'=>w'.cell? ⟨w.heap.size,0,i⟩=f (j p e.term)∧w'.cell? ⟨w.heap.size,1,i⟩=f (j p e.index)∧w'.cell? ⟨w.heap.size,2,i⟩=f (j z e.kind)∧w'.cell? ⟨w.heap.size,3,i⟩=f (j p e.client)∧w'.cell? ⟨w.heap.size,4,i⟩=f (j p e.seq)∧w'.cell? ⟨w.heap.size,5,i⟩=f (j p e.block)∧w'.cell? ⟨w.heap.size,6,i⟩=f (j p e.many)∧w'.cell? ⟨w.heap.size,7,i⟩=f (j z e.node)∧w'.cell? ⟨w.heap.size,8,i⟩=f (j z e.level)∧w'.cell? ⟨w.heap.size,9,i⟩=f (r e.data)∧w'.cell? ⟨w.heap.size,10,i⟩=f (r e.old)) (first|exact ⟨d0,d1,d2,d3,d4,d5,d6,d7,d8,d9,d10⟩|(refine ⟨?_,?_,?_,?_,?_,?_,?_,?_,?_,?_,?_⟩<;>assumption)) (first
    | (go_at_call 260;(with_reducible refine (KN.out 1 1 e.kind _ (by decide) (by decide) q1 Td).mono ?_);rintro q x1 ⟨rfl,X1,x1_0,x1_1,x1_2,x1_3,x1_4,x1_5,x1_6,x1_7,x1_8,x1_9,x1_10⟩)
    | (go_at_call 260;(with_reducible refine (KN.out 2 2 e.term _ (by decide) (by decide) a2 X1).mono ?_);rintro q x2 ⟨rfl,X2,x2_0,x2_1,x2_2,x2_3,x2_4,x2_5,x2_6,x2_7,x2_8,x2_9,x2_10⟩)
    | (go_at_call 260;(with_reducible refine (KN.out 3 3 e.index _ (by decide) (by decide) a3 X2).mono ?_);rintro q x3 ⟨rfl,X3,x3_0,x3_1,x3_2,x3_3,x3_4,x3_5,x3_6,x3_7,x3_8,x3_9,x3_10⟩)
    | (go_at_call 260;(with_reducible refine (KN.out 4 4 e.client _ (by decide) (by decide) a4 X3).mono ?_);rintro q x4 ⟨rfl,X4,x4_0,x4_1,x4_2,x4_3,x4_4,x4_5,x4_6,x4_7,x4_8,x4_9,x4_10⟩)
    | (go_at_call 260;(with_reducible refine (KN.out 5 5 e.seq _ (by decide) (by decide) a5 X4).mono ?_);rintro q x5 ⟨rfl,X5,x5_0,x5_1,x5_2,x5_3,x5_4,x5_5,x5_6,x5_7,x5_8,x5_9,x5_10⟩)
    | (go_at_call 260;(with_reducible refine (KN.out 6 6 e.block _ (by decide) (by decide) a6 X5).mono ?_);rintro q x6 ⟨rfl,X6,x6_0,x6_1,x6_2,x6_3,x6_4,x6_5,x6_6,x6_7,x6_8,x6_9,x6_10⟩)
    | (go_at_call 260;(with_reducible refine (KN.out 7 7 e.many _ (by decide) (by decide) a7 X6).mono ?_);rintro q x7 ⟨rfl,X7,x7_0,x7_1,x7_2,x7_3,x7_4,x7_5,x7_6,x7_7,x7_8,x7_9,x7_10⟩)
    | (go_at_call 260;(with_reducible refine (KN.out 8 8 e.node _ (by decide) (by decide) q8 X7).mono ?_);rintro q x8 ⟨rfl,X8,x8_0,x8_1,x8_2,x8_3,x8_4,x8_5,x8_6,x8_7,x8_8,x8_9,x8_10⟩)
    | (go_at_call 260;(with_reducible refine (KN.out 9 9 e.level _ (by decide) (by decide) q9 X8).mono ?_);rintro q x9 ⟨rfl,X9,x9_0,x9_1,x9_2,x9_3,x9_4,x9_5,x9_6,x9_7,x9_8,x9_9,x9_10⟩)
    | (go_at_call 261;(with_reducible refine (KT.out 10 10 e.data _ (by decide) (by decide) a10 X9).mono ?_);rintro q x10 ⟨rfl,X10,x10_0,x10_1,x10_2,x10_3,x10_4,x10_5,x10_6,x10_7,x10_8,x10_9,x10_10⟩)
    | (go_at_call 261;(with_reducible refine (KT.out 11 11 e.old _ (by decide) (by decide) a11 X10).mono ?_);rintro q x11 ⟨rfl,X11,x11_0,x11_1,x11_2,x11_3,x11_4,x11_5,x11_6,x11_7,x11_8,x11_9,x11_10⟩))
   go_wp2_with fail
   go_ret2;refine ⟨zde ?_ rfl,X11.be⟩;rw [HE.out,zrX]
def ePv (v:Int) (e:En):ByteArray:=if v=2 then zbx e else ze5 e
def eOv (v:Int) (e:En):Bool:=if v=2 then zas e else zdl e
theorem zpY (hv:v=1∨v=2) (h:P.size≤1048576):frP v o P=rfP v o P∧(o&&pkO v P)=o:=by
 have hk:=zpZ hv h;unfold frP rfP pkS;rw [if_pos hk,hk];exact ⟨rfl,by cases o<;>rfl⟩
theorem zs6 (h1:v≠1) (h2:v≠2):rfP v o P=⟨#[]⟩∧(o&&pkO v P)=J:=by
 have hk:pkO v P=J:=by unfold pkO;rw [ztM h1,ztM h2];rfl
 unfold rfP pkS;rw [hk];exact ⟨by cases o<;>rfl,by cases o<;>rfl⟩
theorem zgA (e:En) (ok:e.Ok):(ze5 e).size≤1048576:=by
 unfold ze5
 split
 ·rename_i h
  rw [ziy (zjg ok (zda h))];omega
 ·exact ztO _
theorem zgB (e:En) (ok:e.Ok):(zbx e).size≤1048576:=by
 unfold zbx
 split
 ·rename_i h
  exact ztL (Go.Proofs.YtidndekacnmihaaGreat.zpW ok h) (by omega)
 ·exact ztO _
theorem zs7 (v:Int) (e:En) (w:F) (ok:e.Ok) :
 G C 204 #[j z v,ev e] w fun q w'=>q=E (H #[r (rfP v (eOv v e) (ePv v e)),I (eOv v e&&pkO v (ePv v e))])∧A w.heap.size w w':=by
 by_cases h2:v=2
 ·subst h2;have e1:ePv 2 e=zbx e:=if_pos rfl;have e2:eOv 2 e=zas e:=if_pos rfl;obtain ⟨r1,r2⟩:=zpY (o:=zas e) (.inr rfl) (zgB e ok);rw [e1,e2,←r1,r2];exact zki e (zbx e) (zas e) w (fun W _=>zpv e W ok) (zgB e ok)
 ·have e1:ePv v e=ze5 e:=if_neg h2;have e2:eOv v e=zdl e:=if_neg h2;rw [e1,e2]
  by_cases h1:v=1
  ·subst h1;obtain ⟨r1,r2⟩:=zpY (o:=zdl e) (.inl rfl) (zgA e ok);rw [←r1,r2];exact zkg e (ze5 e) (zdl e) w (fun W _=>zoY e W ok) (zgA e ok)
  ·obtain ⟨r1,r2⟩:=zs6 (o:=zdl e) (P:=ze5 e) h1 h2;rw [r1,r2];exact zkk e v h1 h2 w
theorem zrY (v:Int) (e:En) (w:F) (ok:e.Ok) :
 G C 174 #[j z v,ev e] w fun q w'=>q=E (H #[r (rfP v (eOv v e) (ePv v e)),I (eOv v e&&pkO v (ePv v e))])∧A w.heap.size w w':=by
 by_cases h2:v=2
 ·subst h2;have e1:ePv 2 e=zbx e:=if_pos rfl;have e2:eOv 2 e=zas e:=if_pos rfl;rw [e1,e2];exact zkm e (ze5 e) (zbx e) (zdl e) (zas e) w (fun W _=>zh5 e W ok) (fun W _=>zlp e W ok)
 ·have e1:ePv v e=ze5 e:=if_neg h2;have e2:eOv v e=zdl e:=if_neg h2;rw [e1,e2];exact zkl e v h2 (ze5 e) (zdl e) w (fun W _=>zh5 e W ok)
end D
end Go.Proofs.YtidndekacnmihaaGreat
