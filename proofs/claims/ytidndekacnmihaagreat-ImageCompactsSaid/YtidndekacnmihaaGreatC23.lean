/- Parts of a proof. -/
import Derived.Test.YtidndekacnmihaaGreatC22
set_option linter.all false
set_option maxHeartbeats 8000000
set_option maxRecDepth 100000
namespace Go.Proofs.YtidndekacnmihaaGreat
open Bool renaming false→I,true→S
open Ending renaming returned→H
open Go renaming World→E,Calls→G
open Go.RowKit renaming Below→B
open IntKind renaming i64→A,u64→C
open Obj renaming cells→q
open Option renaming some→f,none→l
open Tryz renaming prog→F
open Value renaming int→d,pointer→D,tuple→L,string→M,bool→N,agg→O
open Tryz hiding t4
variable {ops:Array Oper} {rest:List Oper} {op:Oper} {a:Act} {Q:Exit→Act→E→Prop} {W W' w:E} {R c fn t:Nat} {u v:ByteArray}
namespace J
open Go.RowKit Vi Sl
theorem zgi (x:Int):A.wrap x=wrap64 x:=by rw [IntKind.wrap_i64];unfold wrap64;omega
theorem su7:(prog.info? 65).map (·.size)=f 7:=by kernel_rfl
theorem zai (hgd:op.guard=l) (x y:Operand) (ho:op.op=.store 65 x y)
 (w:E) (z:Nat) (s t:Su) (hx:a.eval x=D (f ⟨z,0,l⟩)) (hy:a.eval y=O s.c) (hz:w.heap[z]?=f (q t.c 65 (0,0)))
 (h:wpList F ops Q rest (a.put op.dst undef) (w.setRow z s.c)):wpList F ops Q (op :: rest) a w :=
 wpList_store_row hgd 65 x y ho z _ hx hy 65 _ hz su7 rfl (by simp [Su.c,Value.oneCell']) h
theorem zb5 (hgd:op.guard=l) (x:Operand) (ho:op.op=.load 65 x)
 (w:E) (z:Nat) (s:Su) (hx:a.eval x=D (f ⟨z,0,l⟩)) (hz:w.heap[z]?=f (q s.c 65 (0,0)))
 (h:wpList F ops Q rest (a.put op.dst (O s.c)) w):wpList F ops Q (op :: rest) a w :=
 wpList_load_row hgd 65 x ho z hx 65 _ (0,0) _ hz underlying65 rfl su7 h
theorem ziH (tmps:Array Value) (w:E) (p:Nat) (s:Su) (hp:tmps.getD 2 undef=D (f ⟨p,0,l⟩)) (hg:w.heap[p]?=f (q s.c 65 (0,0))) :
 (results f220 tmps).run F w=.ok (L #[O s.c,tmps.getD 3 undef]) w:=by
 rw [results_cell_tmp results220,hp];simp [asAddr,run_loadVar_row w p 65 65 s.c (0,0) _ hg underlying65 rfl su7]
theorem zero87 (w:E):(zeroValue 321).run F w=.ok .nilFunc w:=zeroValue321 w
structure Gr (w:E) (R t c fn:Nat) (u:ByteArray) (W:E):Prop where
 be:B w.heap.size w W
 r0:W.heap[w.heap.size]?=f (q su0.c 65 (0,0))
 rd:∃ bad,Rd 327 R u bad W
 ct:W.heap[t]?=f (q #[D (f ⟨R,0,l⟩)] 290 (0,0))
 cf:W.heap[c]?=f (q #[fv fn] 321 (0,0))
 l1:w.heap.size<R
 l2:R<t
 l3:t<c
 sz:u.size≤281474976710656
theorem Gr.lt (h:Gr w R t c fn u W):c<W.heap.size:=(zgx h.cf)
theorem Gr.grown (h:Gr w R t c fn u W) (hr:∃ bad,Rd 327 R v bad W') (hg:W.grownBy W' (f R)) (hv:v.size≤281474976710656):Gr w R t c fn v W':=by
 have l1:=h.l1;have l2:=h.l2;have l3:=h.l3;have lt:=h.lt;have bl:∀ k,k<W.heap.size→k≠R→W'.heap[k]?=W.heap[k]?:=fun k hk hn=>hg.block k hk (by simpa using hn);exact ⟨zaa h.be hg h.be.size (by omega),(bl _ (by omega) (by omega)).trans h.r0,hr,(bl _ (by omega) (by omega)).trans h.ct,(bl _ (by omega) (by omega)).trans h.cf,l1,l2,l3,hv⟩
theorem Gr.below (h:Gr w R t c fn u W) (hb:B W.heap.size W W'):Gr w R t c fn u W' :=
 h.grown (h.rd.elim fun b hr=>⟨b,hr.below hb hr.lt⟩) (zbb hb _) h.sz
theorem zcB {v:Int} {k:Nat} (h:u.size≤281474976710656):(zaN v u k).size≤281474976710656:=ztL (zlN v u k) h
theorem zgK (R:Nat) (u:ByteArray) (k:Nat) (W:E) (h:∃ bad,Rd 327 R u bad W) (hu:u.size≤281474976710656) :
 G F 262 #[D (f ⟨R,0,l⟩),d A k] W fun e w'=>e=H (d C (zaR 1 u k))∧(∃ bad,Rd 327 R (zaN 1 u k) bad w')∧W.grownBy w' (f R):=by
 obtain ⟨bad,h⟩:=h;exact (zaH R u bad k W h hu).mono fun e w' ⟨h1,h2,h3⟩=>⟨h1,⟨_,h2⟩,h3⟩
theorem zhI (W:E) (h:Gr w R t c 262 u W) :
 G F 264 #[D (f ⟨c,0,l⟩),D (f ⟨t,0,l⟩)] W fun e w'=>e=H (d A (w64 (zaR 1 u 2)))∧Gr w R t c 262 (zaN 1 u 2) w':=by
 have c0:W.cell? ⟨c,0,l⟩=f (fv 262):=zcr W c 0 _ 321 (0,0) h.cf;have c1:W.cell? ⟨t,0,l⟩=f (D (f ⟨R,0,l⟩)):=zcr W t 0 _ 290 (0,0) h.ct;have K:=zh ((zgK R u 2 W h.rd h.sz).mono fun e w' ⟨h1,h2,h3⟩=>(⟨h1,h.grown h2 h3 (zcB h.sz)⟩:_∧Gr w R t c 262 (zaN 1 u 2) w'));have HE:Hid (w64 (zaR 1 u 2)=wrap64 ((zaR 1 u 2:Nat):Int)):=zgi _;clear h;go_enter func264,ntmps264
 go_wp2_with fail
 refine K.out.mono ?_;rintro e w1 ⟨rfl,h1⟩;have H1:=zh h1;clear h1;go_wp2;go_ret;exact ⟨by rw [HE.out];rfl,H1.out⟩
theorem zdS (W:E) (h:Gr w R t c 262 u W) :
 G F 265 #[D (f ⟨c,0,l⟩),D (f ⟨t,0,l⟩)] W fun e w'=>e=H (d A (w64 (zaR 1 u 1)))∧Gr w R t c 262 (zaN 1 u 1) w':=by
 have c0:W.cell? ⟨c,0,l⟩=f (fv 262):=zcr W c 0 _ 321 (0,0) h.cf;have c1:W.cell? ⟨t,0,l⟩=f (D (f ⟨R,0,l⟩)):=zcr W t 0 _ 290 (0,0) h.ct;have K:=zh ((zgK R u 1 W h.rd h.sz).mono fun e w' ⟨h1,h2,h3⟩=>(⟨h1,h.grown h2 h3 (zcB h.sz)⟩:_∧Gr w R t c 262 (zaN 1 u 1) w'));have HE:Hid (w64 (zaR 1 u 1)=wrap64 ((zaR 1 u 1:Nat):Int)):=zgi _;clear h;go_enter func265,ntmps265
 go_wp2_with fail
 refine K.out.mono ?_;rintro e w1 ⟨rfl,h1⟩;have H1:=zh h1;clear h1;go_wp2;go_ret;exact ⟨by rw [HE.out];rfl,H1.out⟩
theorem zgL (R:Nat) (u:ByteArray) (k:Nat) (W:E) (h:∃ bad,Rd 327 R u bad W) (hu:u.size≤281474976710656) :
 G F 290 #[D (f ⟨R,0,l⟩),d A k] W fun e w'=>e=H (d C (zaR 2 u k))∧(∃ bad,Rd 327 R (zaN 2 u k) bad w')∧W.grownBy w' (f R):=by
 obtain ⟨bad,h⟩:=h;have K:=zh (zg4 R u bad W h hu);clear h hu;unfold rdp at *;go_enter func290,ntmps290
 go_wp2_with fail
 refine K.out.mono ?_;rintro e w1 ⟨rfl,h1,h2⟩;go_wp2;go_ret;exact ⟨rfl,⟨_,h1⟩,h2⟩
theorem zhJ (W:E) (h:Gr w R t c 290 u W) :
 G F 264 #[D (f ⟨c,0,l⟩),D (f ⟨t,0,l⟩)] W fun e w'=>e=H (d A (w64 (zaR 2 u 2)))∧Gr w R t c 290 (zaN 2 u 2) w':=by
 have c0:W.cell? ⟨c,0,l⟩=f (fv 290):=zcr W c 0 _ 321 (0,0) h.cf;have c1:W.cell? ⟨t,0,l⟩=f (D (f ⟨R,0,l⟩)):=zcr W t 0 _ 290 (0,0) h.ct;have K:=zh ((zgL R u 2 W h.rd h.sz).mono fun e w' ⟨h1,h2,h3⟩=>(⟨h1,h.grown h2 h3 (zcB h.sz)⟩:_∧Gr w R t c 290 (zaN 2 u 2) w'));have HE:Hid (w64 (zaR 2 u 2)=wrap64 ((zaR 2 u 2:Nat):Int)):=zgi _;clear h;go_enter func264,ntmps264
 go_wp2_with fail
 refine K.out.mono ?_;rintro e w1 ⟨rfl,h1⟩;have H1:=zh h1;clear h1;go_wp2;go_ret;exact ⟨by rw [HE.out];rfl,H1.out⟩
theorem zdT (W:E) (h:Gr w R t c 290 u W) :
 G F 265 #[D (f ⟨c,0,l⟩),D (f ⟨t,0,l⟩)] W fun e w'=>e=H (d A (w64 (zaR 2 u 1)))∧Gr w R t c 290 (zaN 2 u 1) w':=by
 have c0:W.cell? ⟨c,0,l⟩=f (fv 290):=zcr W c 0 _ 321 (0,0) h.cf;have c1:W.cell? ⟨t,0,l⟩=f (D (f ⟨R,0,l⟩)):=zcr W t 0 _ 290 (0,0) h.ct;have K:=zh ((zgL R u 1 W h.rd h.sz).mono fun e w' ⟨h1,h2,h3⟩=>(⟨h1,h.grown h2 h3 (zcB h.sz)⟩:_∧Gr w R t c 290 (zaN 2 u 1) w'));have HE:Hid (w64 (zaR 2 u 1)=wrap64 ((zaR 2 u 1:Nat):Int)):=zgi _;clear h;go_enter func265,ntmps265
 go_wp2_with fail
 refine K.out.mono ?_;rintro e w1 ⟨rfl,h1⟩;have H1:=zh h1;clear h1;go_wp2;go_ret;exact ⟨by rw [HE.out];rfl,H1.out⟩
theorem zgM (b:ByteArray) (w:E) (hb:b.size≤281474976710656) (h1:rv b≠1) (h2:rv b≠2):G F 220 #[M b] w fun e w'=>e=H (L #[su0.val,N I])∧B w.heap.size w w':=by
 obtain ⟨W0,hW0⟩:∃ W0,W0=w.alloc (q su0.c 65):=⟨_,rfl⟩;have b0:B w.heap.size w W0:=by rw [hW0];exact zba
 have k0:W0.heap[w.heap.size]?=f (q su0.c 65 (0,0)):=by rw [hW0];exact ztJ w _
 have s0:W0.heap.size=w.heap.size+1:=by rw [hW0];simp
 have KN:=zh (zbE b W0);have HB0:=zh b0;have HK0:=zh k0;have HS0:=zh s0;have HW0:=zh hW0;have HBZ:=zh hb;have HV:Hid (((za1 b 1:Nat):Int)≠1∧((za1 b 1:Nat):Int)≠2):=⟨h1,h2⟩;have HV1:=zh (zbZ b);clear b0 k0 s0 hW0 h1 h2 hb;unfold rdp su0 Su.c at *;dsimp only at *;go_enter func220,ntmps220
 go_wp2_with fail
 rw [←HW0.out];refine KN.out.mono ?_;rintro e w1 ⟨rfl,hw1⟩;obtain ⟨R,hR⟩:∃ R,R=W0.heap.size:=⟨_,rfl⟩;have r1:Rd 327 R b I w1:=by rw [hw1,hR];exact Rd.new _ _ _ _
 have b1:B W0.heap.size W0 w1:=by rw [hw1];exact zba
 have s1:w1.heap.size=R+1:=by rw [hw1,hR];simp
 have HRR:=zh hR;have HB1:=zh (HB0.out.trans (b1.mono HB0.out.size));have HK1:Hid (w1.heap[w.heap.size]?=f (q su0.c 65 (0,0))):=(b1.block _ (by have:=HS0.out;omega)).trans HK0.out;have HR1:=zh r1;have HS1:=zh s1;clear hw1 r1 b1 s1 hR;rw [←HRR.out];obtain ⟨W2,hW2⟩:∃ W2,W2=w1.alloc (q #[D (f ⟨R,0,l⟩)] 290):=⟨_,rfl⟩;have b2:B w1.heap.size w1 W2:=by rw [hW2];exact zba
 have KF:=zh (zaH R b I 1 W2 (HR1.out.below b2 HR1.out.lt) HBZ.out);have HB2:=zh (HB1.out.trans (b2.mono HB1.out.size));have HK2:Hid (W2.heap[w.heap.size]?=f (q su0.c 65 (0,0))):=(b2.block _ (by have:=HS1.out;have:=HS0.out;have:=HRR.out;omega)).trans HK1.out;have HW2:=zh hW2;clear b2 hW2;unfold rdp at *
 go_wp2_with fail
 rw [←HW2.out];refine KF.out.mono ?_;rintro e w3 ⟨rfl,r3,g3⟩;have HB3:Hid (B w.heap.size w w3):=zaa HB2.out g3 HB2.out.size (by have:=HS0.out;have:=HRR.out;omega);have HK3:Hid (w3.heap[w.heap.size]?=f (q su0.c 65 (0,0))):=(g3.block _ (zgx HK2.out) (by have:=HS0.out;have:=HRR.out;simp;omega)).trans HK2.out;clear r3 g3;obtain ⟨n,hn⟩:∃ n,n=za1 b 1:=⟨_,rfl⟩;rw [←hn] at HV HV1 ⊢;have hwr:A.wrap (n:Int)=(n:Int):=IntWalk.i64_in _ (by have:=HV1.out;omega);clear hn
 go_wp2_with fail
 refine (zbk _).mono ?_;rintro e w4 ⟨rfl,m4,b4,s4⟩;have HB4:=zh (HB3.out.trans (b4.mono HB3.out.size));have HK4:=zh ((b4.block _ (zgx HK3.out)).trans HK3.out);have hl:=zce (T:=323) (n:Int) underlying323 zero87 m4 (zkq _ _ _ HV.out.1 HV.out.2);have k5:(w4.alloc (q #[.nilFunc] 321)).heap[w.heap.size]?=f (q su0.c 65 (0,0)):=(ztQ _ _ _ (zgx HK4.out)).trans HK4.out;obtain ⟨W5,hW5⟩:∃ W5,W5=(w4.alloc (q #[.nilFunc] 321)).setRow w.heap.size su0.c:=⟨_,rfl⟩;have HB5:Hid (B w.heap.size w W5):=by rw [hW5];exact (HB4.out.alloc HB4.out.size _).trans ⟨rfl,rfl,rfl,by simp,fun k hk=>setRow_other _ _ _ _ (by have:=HB4.out.size;omega)⟩
 have HK5:Hid (W5.heap[w.heap.size]?=f (q su0.c 65 (0,0))):=by show _=_;rw [hW5];exact setRow_heap _ _ _ _ 65 (0,0) k5
 have HW5:=zh hW5;have K5:=zh k5;clear m4 b4 s4 hW5 k5
 go_wp2_with (refine zai rfl _ _ rfl _ _ su0 su0 rfl rfl K5.out ?_;refine zab HW5.out.symm ?_;go_frame)
 exact ztP (v:=_) (ziH _ _ w.heap.size su0 rfl HK5.out) rfl ⟨rfl,HB5.out⟩
theorem zfQ (b:ByteArray) (w:E) (hb:b.size≤281474976710656) (hv:rv b=1):G F 220 #[M b] w fun e w'=>e=H (L #[(gS b).val,N (gO b)])∧B w.heap.size w w':=by
 obtain ⟨W0,hW0⟩:∃ W0,W0=w.alloc (q su0.c 65):=⟨_,rfl⟩;have b0:B w.heap.size w W0:=by rw [hW0];exact zba
 have k0:W0.heap[w.heap.size]?=f (q su0.c 65 (0,0)):=by rw [hW0];exact ztJ w _
 have s0:W0.heap.size=w.heap.size+1:=by rw [hW0];simp
 have KN:=zh (zbE b W0);have HB0:=zh b0;have HK0:=zh k0;have HS0:=zh s0;have HW0:=zh hW0;have HBZ:=zh hb;have HV:Hid (((za1 b 1:Nat):Int)=1):=hv;have hrs:rs b=rdS 1 (zan b 1):=by unfold rs;rw [hv]
 have hu:(zan b 1).size≤281474976710656:=ztL (zak b 1) hb;obtain ⟨u,hu0⟩:∃ u,u=zan b 1:=⟨_,rfl⟩;rw [←hu0] at hrs hu;have KP:=zh (fun (W:E)=>zcS (rdS 1 u) W);obtain ⟨r,hr⟩:∃ r,r=rgt (rdS 1 u):=⟨_,rfl⟩;obtain ⟨p,hp⟩:∃ p,p=zis (rdS 1 u):=⟨_,rfl⟩;rw [←hr,←hp] at KP;obtain ⟨te,hte⟩:∃ te,te=(p.toList==b.toList):=⟨_,rfl⟩
 have HG:Hid (gO b=(r&&te)):=by
  show _=_;unfold gO;rw [hrs,←hr,hte,hp]
  cases hrr:r with
  | false=>rfl
  | true=>unfold zis;rw [←hr,hrr,if_pos rfl]
 have HS:Hid (gS b=if (r&&te)=S then rdS 1 u else su0):=by show _=_;unfold gS;rw [HG.out,hrs]
 have HTE:=zh hte.symm;have HU:=zh hu;have HU0:=zh hu0;obtain ⟨T,hT⟩:∃ T,T=rdS 1 u:=⟨_,rfl⟩;have HT:Hid (T.c=#[d A (rdS 1 u).v,d A (rdS 1 u).sn,d A (rdS 1 u).lg,d A (rdS 1 u).ar,d A (rdS 1 u).hf,d A (rdS 1 u).gl,d A (rdS 1 u).sp]):=by show _=_;rw [hT];rfl
 rw [←hT] at HS;unfold rdS u5 u4 u3 u2 u1 at KP HT;unfold Su.val Su.c at KP;dsimp only at KP HT;have HX:Hid (T.c=_):=HT.out;clear b0 k0 s0 hW0 hv hb hrs hu hu0 hr hp hte hT HT;unfold rdp at *;go_enter func220,ntmps220
 go_wp2_with fail
 have hz0:(w.alloc (q su0.c 65))=w.alloc (q #[d A 0,d A 0,d A 0,d A 0,d A 0,d A 0,d A 0] 65):=rfl;rw [hz0] at HW0;clear hz0;rw [←HW0.out];refine KN.out.mono ?_;rintro e w1 ⟨rfl,hw1⟩;obtain ⟨R,hR⟩:∃ R,R=W0.heap.size:=⟨_,rfl⟩;have r1:Rd 327 R b I w1:=by rw [hw1,hR];exact Rd.new _ _ _ _
 have b1:B W0.heap.size W0 w1:=by rw [hw1];exact zba
 have s1:w1.heap.size=R+1:=by rw [hw1,hR];simp
 have HRR:=zh hR;have HB1:=zh (HB0.out.trans (b1.mono HB0.out.size));have HK1:Hid (w1.heap[w.heap.size]?=f (q su0.c 65 (0,0))):=(b1.block _ (by have:=HS0.out;omega)).trans HK0.out;have HR1:=zh r1;have HS1:=zh s1;clear hw1 r1 b1 s1 hR;rw [←HRR.out];obtain ⟨W2,hW2⟩:∃ W2,W2=w1.alloc (q #[D (f ⟨R,0,l⟩)] 290):=⟨_,rfl⟩;have b2:B w1.heap.size w1 W2:=by rw [hW2];exact zba
 have KF:=zh (zaH R b I 1 W2 (HR1.out.below b2 HR1.out.lt) HBZ.out);have HB2:=zh (HB1.out.trans (b2.mono HB1.out.size));have HK2:Hid (W2.heap[w.heap.size]?=f (q su0.c 65 (0,0))):=(b2.block _ (by have:=HS1.out;have:=HS0.out;have:=HRR.out;omega)).trans HK1.out;have HT2:Hid (W2.heap[w1.heap.size]?=f (q #[D (f ⟨R,0,l⟩)] 290 (0,0))):=by show _=_;rw [hW2];exact ztJ w1 _
 have HW2:=zh hW2;clear b2 hW2;unfold rdp at *
 go_wp2_with fail
 rw [←HW2.out];refine KF.out.mono ?_;rintro e w3 ⟨rfl,r3,g3⟩;have HB3:Hid (B w.heap.size w w3):=zaa HB2.out g3 HB2.out.size (by have:=HS0.out;have:=HRR.out;omega);have HK3:Hid (w3.heap[w.heap.size]?=f (q su0.c 65 (0,0))):=(g3.block _ (zgx HK2.out) (by have:=HS0.out;have:=HRR.out;simp;omega)).trans HK2.out;have HT3:Hid (w3.heap[w1.heap.size]?=f (q #[D (f ⟨R,0,l⟩)] 290 (0,0))):=(g3.block _ (zgx HT2.out) (by have:=HS1.out;simp;omega)).trans HT2.out;rw [←HU0.out] at r3;have HR3:=zh r3;clear r3 g3 KF KN;rw [HV.out]
 go_wp2_with fail
 refine (zbk _).mono ?_;rintro e w4 ⟨rfl,m4,b4,s4⟩;have hl:=zaD (T:=323) 1 (fv 262) underlying323 m4 (zed _ _);have t3:=(zgx HT3.out);have HB4:=zh (HB3.out.trans (b4.mono HB3.out.size));have HK4:=zh ((b4.block _ (zgx HK3.out)).trans HK3.out);have HT4:Hid (w4.heap[w1.heap.size]?=f (q #[D (f ⟨R,0,l⟩)] 290 (0,0))):=(b4.block _ t3).trans HT3.out;have HR4:Hid (Rd 327 R u (I||!za3 b 1) w4):=HR3.out.below b4 HR3.out.lt;have t4:=(zgx HT4.out);obtain ⟨W5,hW5⟩:∃ W5,W5=w4.alloc (q #[fv 262] 321):=⟨_,rfl⟩;have b5:B w4.heap.size w4 W5:=by rw [hW5];exact zba
 have G0:Hid (Gr w R w1.heap.size w4.heap.size 262 u W5) :=
  ⟨HB4.out.trans (b5.mono HB4.out.size),(b5.block _ (zgx HK4.out)).trans HK4.out,⟨_,HR4.out.below b5 HR4.out.lt⟩,(b5.block _ t4).trans HT4.out,by rw [hW5];exact ztJ w4 _,by have:=HS0.out;have:=HRR.out;omega,by have:=HS1.out;omega,t4,HU.out⟩
 have HW5:=zh hW5;clear m4 b4 s4 hW5 b5 t3 t4 HR1 HR3 HR4 HT2 HT3 HT4 HB0 HB1 HB2 HB3 HB4 HK0 HK1 HK2 HK3 HK4 HW2 HW0 HS1 HS0 HRR;generalize hw1s:w1.heap.size=t at *;generalize hw4s:w4.heap.size=c at *;have HC1:=zh hw1s;have HC4:=zh hw4s;clear hw1s hw4s;have KG:=zh (zhI _ G0.out)
 go_wp2_with fail
 rw [←HW5.out,HC4.out];refine KG.out.mono ?_;rintro e y1 ⟨rfl,g1⟩;have G1:=zh g1;clear KG g1 G0;clear hl HW5;have KG:=zh (zhI _ G1.out)
 go_wp2_with fail
 refine KG.out.mono ?_;rintro e y2 ⟨rfl,g2⟩;have G2:=zh g2;clear KG g2 G1;have KG:=zh (zdS _ G2.out)
 go_wp2_with fail
 refine KG.out.mono ?_;rintro e y3 ⟨rfl,g3⟩;have G3:=zh g3;clear KG g3 G2;have KG:=zh (zdS _ G3.out)
 go_wp2_with fail
 refine KG.out.mono ?_;rintro e y4 ⟨rfl,g4⟩;have G4:=zh g4;clear KG g4 G3;have KG:=zh (zdS _ G4.out)
 go_wp2_with fail
 refine KG.out.mono ?_;rintro e y5 ⟨rfl,g5⟩;have G5:=zh g5;clear KG g5 G4;have KG:=zh (zdS _ G5.out)
 go_wp2_with fail
 refine KG.out.mono ?_;rintro e y6 ⟨rfl,g6⟩;have G6:=zh g6;clear KG g6 G5;have q0:=Array.getElem?_eq_some_iff.1 G6.out.r0;obtain ⟨V,hV⟩:∃ V,V=y6.alloc (q T.c 65):=⟨_,rfl⟩;have bV:B y6.heap.size y6 V:=by rw [hV];exact zba
 have GV:Hid (Gr w R t c 262 _ V):=G6.out.below bV;have HVT:Hid (V.heap[y6.heap.size]?=f (q T.c 65 (0,0))):=by show _=_;rw [hV];exact ztJ y6 _
 rw [HX.out] at hV;have HVV:=zh hV;clear hV bV q0 G6
 go_wp2_with fail
 rw [←HVV.out,←HX.out];rw [←HX.out] at KP;refine (KP.out _).mono ?_;rintro e z ⟨rfl,bz⟩;have Gz:=GV.out.below bz;have hb:=Gz.be;have KZ:Hid (z.heap[w.heap.size]?=f (q su0.c 65 (0,0))):=Gz.r0;have TZ:=zh ((bz.block _ (zgx HVT.out)).trans HVT.out);clear Gz GV HVT HVV HX KP bz HC1 HC4 HU HU0;obtain ⟨Z0,hZ0⟩:∃ Z,Z=z.setRow w.heap.size su0.c:=⟨_,rfl⟩;obtain ⟨Z1,hZ1⟩:∃ Z,Z=z.setRow w.heap.size T.c:=⟨_,rfl⟩;have B0:Hid (B w.heap.size w Z0):=by rw [hZ0];exact hb.trans ⟨rfl,rfl,rfl,by simp,fun k hk=>setRow_other _ _ _ _ (by omega)⟩
 have B1:Hid (B w.heap.size w Z1):=by rw [hZ1];exact hb.trans ⟨rfl,rfl,rfl,by simp,fun k hk=>setRow_other _ _ _ _ (by omega)⟩
 have K0:Hid (Z0.heap[w.heap.size]?=f (q su0.c 65 (0,0))):=by show _=_;rw [hZ0];exact setRow_heap _ _ _ _ 65 (0,0) KZ.out
 have K1:Hid (Z1.heap[w.heap.size]?=f (q T.c 65 (0,0))):=by show _=_;rw [hZ1];exact setRow_heap _ _ _ _ 65 (0,0) KZ.out
 have HZ0:=zh hZ0;have HZ1:=zh hZ1;clear hZ0 hZ1 hb
 cases r with
 | false =>
   clear HTE
   go_wp2_with (refine zai rfl _ _ rfl _ _ su0 su0 rfl rfl KZ.out ?_;refine zab HZ0.out.symm ?_;go_frame)
   exact ztP (v:=_) (ziH _ _ w.heap.size su0 rfl K0.out) rfl ⟨by rw [HS.out,HG.out];rfl,B0.out⟩
 | true =>
   cases te with
   | false =>
     have hne:=HTE.out;clear HTE
     go_wp2_with (refine zai rfl _ _ rfl _ _ su0 su0 rfl rfl KZ.out ?_;refine zab HZ0.out.symm ?_;go_frame)
     exact ztP (v:=_) (ziH _ _ w.heap.size su0 rfl K0.out) rfl ⟨by rw [HS.out,HG.out];rfl,B0.out⟩
   | true =>
     have hne:=HTE.out;clear HTE
     go_wp2_with (first|(refine zb5 rfl _ rfl _ _ T rfl TZ.out ?_;go_frame)|(refine zai rfl _ _ rfl _ _ T su0 rfl rfl KZ.out ?_;refine zab HZ1.out.symm ?_;go_frame))
     exact ztP (v:=_) (ziH _ _ w.heap.size T rfl K1.out) rfl ⟨by rw [HS.out,HG.out];rfl,B1.out⟩
theorem zfR (b:ByteArray) (w:E) (hb:b.size≤281474976710656) (hv:rv b=2):G F 220 #[M b] w fun e w'=>e=H (L #[(gS b).val,N (gO b)])∧B w.heap.size w w':=by
 obtain ⟨W0,hW0⟩:∃ W0,W0=w.alloc (q su0.c 65):=⟨_,rfl⟩;have b0:B w.heap.size w W0:=by rw [hW0];exact zba
 have k0:W0.heap[w.heap.size]?=f (q su0.c 65 (0,0)):=by rw [hW0];exact ztJ w _
 have s0:W0.heap.size=w.heap.size+1:=by rw [hW0];simp
 have KN:=zh (zbE b W0);have HB0:=zh b0;have HK0:=zh k0;have HS0:=zh s0;have HW0:=zh hW0;have HBZ:=zh hb;have HV:Hid (((za1 b 1:Nat):Int)=2):=hv;have hrs:rs b=rdS 2 (zan b 1):=by unfold rs;rw [hv]
 have hu:(zan b 1).size≤281474976710656:=ztL (zak b 1) hb;obtain ⟨u,hu0⟩:∃ u,u=zan b 1:=⟨_,rfl⟩;rw [←hu0] at hrs hu;have KP:=zh (fun (W:E)=>zcS (rdS 2 u) W);obtain ⟨r,hr⟩:∃ r,r=rgt (rdS 2 u):=⟨_,rfl⟩;obtain ⟨p,hp⟩:∃ p,p=zis (rdS 2 u):=⟨_,rfl⟩;rw [←hr,←hp] at KP;obtain ⟨te,hte⟩:∃ te,te=(p.toList==b.toList):=⟨_,rfl⟩
 have HG:Hid (gO b=(r&&te)):=by
  show _=_;unfold gO;rw [hrs,←hr,hte,hp]
  cases hrr:r with
  | false=>rfl
  | true=>unfold zis;rw [←hr,hrr,if_pos rfl]
 have HS:Hid (gS b=if (r&&te)=S then rdS 2 u else su0):=by show _=_;unfold gS;rw [HG.out,hrs]
 have HTE:=zh hte.symm;have HU:=zh hu;have HU0:=zh hu0;obtain ⟨T,hT⟩:∃ T,T=rdS 2 u:=⟨_,rfl⟩;have HT:Hid (T.c=#[d A (rdS 2 u).v,d A (rdS 2 u).sn,d A (rdS 2 u).lg,d A (rdS 2 u).ar,d A (rdS 2 u).hf,d A (rdS 2 u).gl,d A (rdS 2 u).sp]):=by show _=_;rw [hT];rfl
 rw [←hT] at HS;unfold rdS u5 u4 u3 u2 u1 at KP HT;unfold Su.val Su.c at KP;dsimp only at KP HT;have HX:Hid (T.c=_):=HT.out;clear b0 k0 s0 hW0 hv hb hrs hu hu0 hr hp hte hT HT;unfold rdp at *;go_enter func220,ntmps220
 go_wp2_with fail
 have hz0:(w.alloc (q su0.c 65))=w.alloc (q #[d A 0,d A 0,d A 0,d A 0,d A 0,d A 0,d A 0] 65):=rfl;rw [hz0] at HW0;clear hz0;rw [←HW0.out];refine KN.out.mono ?_;rintro e w1 ⟨rfl,hw1⟩;obtain ⟨R,hR⟩:∃ R,R=W0.heap.size:=⟨_,rfl⟩;have r1:Rd 327 R b I w1:=by rw [hw1,hR];exact Rd.new _ _ _ _
 have b1:B W0.heap.size W0 w1:=by rw [hw1];exact zba
 have s1:w1.heap.size=R+1:=by rw [hw1,hR];simp
 have HRR:=zh hR;have HB1:=zh (HB0.out.trans (b1.mono HB0.out.size));have HK1:Hid (w1.heap[w.heap.size]?=f (q su0.c 65 (0,0))):=(b1.block _ (by have:=HS0.out;omega)).trans HK0.out;have HR1:=zh r1;have HS1:=zh s1;clear hw1 r1 b1 s1 hR;rw [←HRR.out];obtain ⟨W2,hW2⟩:∃ W2,W2=w1.alloc (q #[D (f ⟨R,0,l⟩)] 290):=⟨_,rfl⟩;have b2:B w1.heap.size w1 W2:=by rw [hW2];exact zba
 have KF:=zh (zaH R b I 1 W2 (HR1.out.below b2 HR1.out.lt) HBZ.out);have HB2:=zh (HB1.out.trans (b2.mono HB1.out.size));have HK2:Hid (W2.heap[w.heap.size]?=f (q su0.c 65 (0,0))):=(b2.block _ (by have:=HS1.out;have:=HS0.out;have:=HRR.out;omega)).trans HK1.out;have HT2:Hid (W2.heap[w1.heap.size]?=f (q #[D (f ⟨R,0,l⟩)] 290 (0,0))):=by show _=_;rw [hW2];exact ztJ w1 _
 have HW2:=zh hW2;clear b2 hW2;unfold rdp at *
 go_wp2_with fail
 rw [←HW2.out];refine KF.out.mono ?_;rintro e w3 ⟨rfl,r3,g3⟩;have HB3:Hid (B w.heap.size w w3):=zaa HB2.out g3 HB2.out.size (by have:=HS0.out;have:=HRR.out;omega);have HK3:Hid (w3.heap[w.heap.size]?=f (q su0.c 65 (0,0))):=(g3.block _ (zgx HK2.out) (by have:=HS0.out;have:=HRR.out;simp;omega)).trans HK2.out;have HT3:Hid (w3.heap[w1.heap.size]?=f (q #[D (f ⟨R,0,l⟩)] 290 (0,0))):=(g3.block _ (zgx HT2.out) (by have:=HS1.out;simp;omega)).trans HT2.out;rw [←HU0.out] at r3;have HR3:=zh r3;clear r3 g3 KF KN;rw [HV.out]
 go_wp2_with fail
 refine (zbk _).mono ?_;rintro e w4 ⟨rfl,m4,b4,s4⟩;have hl:=zaD (T:=323) 2 (fv 290) underlying323 m4 (zee _ _);have t3:=(zgx HT3.out);have HB4:=zh (HB3.out.trans (b4.mono HB3.out.size));have HK4:=zh ((b4.block _ (zgx HK3.out)).trans HK3.out);have HT4:Hid (w4.heap[w1.heap.size]?=f (q #[D (f ⟨R,0,l⟩)] 290 (0,0))):=(b4.block _ t3).trans HT3.out;have HR4:Hid (Rd 327 R u (I||!za3 b 1) w4):=HR3.out.below b4 HR3.out.lt;have t4:=(zgx HT4.out);obtain ⟨W5,hW5⟩:∃ W5,W5=w4.alloc (q #[fv 290] 321):=⟨_,rfl⟩;have b5:B w4.heap.size w4 W5:=by rw [hW5];exact zba
 have G0:Hid (Gr w R w1.heap.size w4.heap.size 290 u W5) :=
  ⟨HB4.out.trans (b5.mono HB4.out.size),(b5.block _ (zgx HK4.out)).trans HK4.out,⟨_,HR4.out.below b5 HR4.out.lt⟩,(b5.block _ t4).trans HT4.out,by rw [hW5];exact ztJ w4 _,by have:=HS0.out;have:=HRR.out;omega,by have:=HS1.out;omega,t4,HU.out⟩
 have HW5:=zh hW5;clear m4 b4 s4 hW5 b5 t3 t4 HR1 HR3 HR4 HT2 HT3 HT4 HB0 HB1 HB2 HB3 HB4 HK0 HK1 HK2 HK3 HK4 HW2 HW0 HS1 HS0 HRR;generalize hw1s:w1.heap.size=t at *;generalize hw4s:w4.heap.size=c at *;have HC1:=zh hw1s;have HC4:=zh hw4s;clear hw1s hw4s;have KG:=zh (zhJ _ G0.out)
 go_wp2_with fail
 rw [←HW5.out,HC4.out];refine KG.out.mono ?_;rintro e y1 ⟨rfl,g1⟩;have G1:=zh g1;clear KG g1 G0;clear hl HW5;have KG:=zh (zhJ _ G1.out)
 go_wp2_with fail
 refine KG.out.mono ?_;rintro e y2 ⟨rfl,g2⟩;have G2:=zh g2;clear KG g2 G1;have KG:=zh (zdT _ G2.out)
 go_wp2_with fail
 refine KG.out.mono ?_;rintro e y3 ⟨rfl,g3⟩;have G3:=zh g3;clear KG g3 G2;have KG:=zh (zdT _ G3.out)
 go_wp2_with fail
 refine KG.out.mono ?_;rintro e y4 ⟨rfl,g4⟩;have G4:=zh g4;clear KG g4 G3;have KG:=zh (zdT _ G4.out)
 go_wp2_with fail
 refine KG.out.mono ?_;rintro e y5 ⟨rfl,g5⟩;have G5:=zh g5;clear KG g5 G4;have KG:=zh (zdT _ G5.out)
 go_wp2_with fail
 refine KG.out.mono ?_;rintro e y6 ⟨rfl,g6⟩;have G6:=zh g6;clear KG g6 G5;have q0:=Array.getElem?_eq_some_iff.1 G6.out.r0;obtain ⟨V,hV⟩:∃ V,V=y6.alloc (q T.c 65):=⟨_,rfl⟩;have bV:B y6.heap.size y6 V:=by rw [hV];exact zba
 have GV:Hid (Gr w R t c 290 _ V):=G6.out.below bV;have HVT:Hid (V.heap[y6.heap.size]?=f (q T.c 65 (0,0))):=by show _=_;rw [hV];exact ztJ y6 _
 rw [HX.out] at hV;have HVV:=zh hV;clear hV bV q0 G6
 go_wp2_with fail
 rw [←HVV.out,←HX.out];rw [←HX.out] at KP;refine (KP.out _).mono ?_;rintro e z ⟨rfl,bz⟩;have Gz:=GV.out.below bz;have hb:=Gz.be;have KZ:Hid (z.heap[w.heap.size]?=f (q su0.c 65 (0,0))):=Gz.r0;have TZ:=zh ((bz.block _ (zgx HVT.out)).trans HVT.out);clear Gz GV HVT HVV HX KP bz HC1 HC4 HU HU0;obtain ⟨Z0,hZ0⟩:∃ Z,Z=z.setRow w.heap.size su0.c:=⟨_,rfl⟩;obtain ⟨Z1,hZ1⟩:∃ Z,Z=z.setRow w.heap.size T.c:=⟨_,rfl⟩;have B0:Hid (B w.heap.size w Z0):=by rw [hZ0];exact hb.trans ⟨rfl,rfl,rfl,by simp,fun k hk=>setRow_other _ _ _ _ (by omega)⟩
 have B1:Hid (B w.heap.size w Z1):=by rw [hZ1];exact hb.trans ⟨rfl,rfl,rfl,by simp,fun k hk=>setRow_other _ _ _ _ (by omega)⟩
 have K0:Hid (Z0.heap[w.heap.size]?=f (q su0.c 65 (0,0))):=by show _=_;rw [hZ0];exact setRow_heap _ _ _ _ 65 (0,0) KZ.out
 have K1:Hid (Z1.heap[w.heap.size]?=f (q T.c 65 (0,0))):=by show _=_;rw [hZ1];exact setRow_heap _ _ _ _ 65 (0,0) KZ.out
 have HZ0:=zh hZ0;have HZ1:=zh hZ1;clear hZ0 hZ1 hb
 cases r with
 | false =>
   clear HTE
   go_wp2_with (refine zai rfl _ _ rfl _ _ su0 su0 rfl rfl KZ.out ?_;refine zab HZ0.out.symm ?_;go_frame)
   exact ztP (v:=_) (ziH _ _ w.heap.size su0 rfl K0.out) rfl ⟨by rw [HS.out,HG.out];rfl,B0.out⟩
 | true =>
   cases te with
   | false =>
     have hne:=HTE.out;clear HTE
     go_wp2_with (refine zai rfl _ _ rfl _ _ su0 su0 rfl rfl KZ.out ?_;refine zab HZ0.out.symm ?_;go_frame)
     exact ztP (v:=_) (ziH _ _ w.heap.size su0 rfl K0.out) rfl ⟨by rw [HS.out,HG.out];rfl,B0.out⟩
   | true =>
     have hne:=HTE.out;clear HTE
     go_wp2_with (first|(refine zb5 rfl _ rfl _ _ T rfl TZ.out ?_;go_frame)|(refine zai rfl _ _ rfl _ _ T su0 rfl rfl KZ.out ?_;refine zab HZ1.out.symm ?_;go_frame))
     exact ztP (v:=_) (ziH _ _ w.heap.size T rfl K1.out) rfl ⟨by rw [HS.out,HG.out];rfl,B1.out⟩
theorem zhK (b:ByteArray) (w:E) (hb:b.size≤281474976710656):G F 220 #[M b] w fun e w'=>e=H (L #[(gS b).val,N (gO b)])∧B w.heap.size w w':=by
 by_cases h1:rv b=1
 ·exact zfQ b w hb h1
 ·by_cases h2:rv b=2
  ·exact zfR b w hb h2
  ·have hg:gO b=I:=by
    unfold gO
    have:rgt (rs b)=I:=by
     rw [←Bool.not_eq_true,zbj];intro h
     have:=h.1
     have e:(rs b).v=rv b:=rfl;omega
    rw [this];rfl
   have hs:gS b=su0:=by unfold gS;rw [hg];rfl
   rw [hg,hs];exact zgM b w hb h1 h2
theorem hd3:(prog.info? 41).map (·.size)=f 3:=by kernel_rfl
theorem zaj (hgd:op.guard=l) (x y:Operand) (ho:op.op=.store 41 x y)
 (w:E) (z:Nat) (s t:Hd) (hx:a.eval x=D (f ⟨z,0,l⟩)) (hy:a.eval y=O s.c) (hz:w.heap[z]?=f (q t.c 41 (0,0)))
 (h:wpList F ops Q rest (a.put op.dst undef) (w.setRow z s.c)):wpList F ops Q (op :: rest) a w :=
 wpList_store_row hgd 41 x y ho z _ hx hy 41 _ hz hd3 rfl (by simp [Hd.c,Value.oneCell']) h
theorem zb6 (hgd:op.guard=l) (x:Operand) (ho:op.op=.load 41 x)
 (w:E) (z:Nat) (s:Hd) (hx:a.eval x=D (f ⟨z,0,l⟩)) (hz:w.heap[z]?=f (q s.c 41 (0,0)))
 (h:wpList F ops Q rest (a.put op.dst (O s.c)) w):wpList F ops Q (op :: rest) a w :=
 wpList_load_row hgd 41 x ho z hx 41 _ (0,0) _ hz underlying41 rfl hd3 h
theorem zci {fn:Func} {p u v:Tmp} {ty:TypeId} (h:fn.results=#[.cell p ty,.tmp u,.tmp v]) (tmps:Array Value) (P:Program) (w:E) :
 (results fn tmps).run P w =
   ((asAddr (tmps.getD p undef)).run P w).andThen fun a w₁=>((loadVar ty a).run P w₁).andThen fun x w₂=>.ok (L #[x,tmps.getD u undef,tmps.getD v undef]) w₂:=by
 simp only [results,h];simp [Sem.run_bind,Result.andThen]
theorem ziI (tmps:Array Value) (w:E) (p:Nat) (s:Hd) (hp:tmps.getD 2 undef=D (f ⟨p,0,l⟩)) (hg:w.heap[p]?=f (q s.c 41 (0,0))) :
 (results f221 tmps).run F w=.ok (L #[O s.c,tmps.getD 3 undef,tmps.getD 4 undef]) w:=by
 rw [zci results221,hp];simp [asAddr,run_loadVar_row w p 41 41 s.c (0,0) _ hg underlying41 rfl hd3]
structure Gh (w:E) (h:Hd) (R:Nat) (u:ByteArray) (W:E):Prop where
 be:B w.heap.size w W
 r0:W.heap[w.heap.size]?=f (q h.c 41 (0,0))
 rd:∃ bad,Rd 327 R u bad W
 l1:w.heap.size<R
 sz:u.size≤281474976710656
theorem Gh.grown {h:Hd} (k:Gh w h R u W) (hr:∃ bad,Rd 327 R v bad W') (hg:W.grownBy W' (f R)) (hv:v.size≤281474976710656):Gh w h R v W':=by
 have l1:=k.l1;have lt:=(zgx k.r0);exact ⟨zaa k.be hg k.be.size (by omega),(hg.block _ lt (by simp;omega)).trans k.r0,hr,l1,hv⟩
theorem Gh.below {h:Hd} (k:Gh w h R u W) (hb:B W.heap.size W W'):Gh w h R u W' :=
 k.grown (k.rd.elim fun b hr=>⟨b,hr.below hb hr.lt⟩) (zbb hb _) k.sz
theorem Gh.put {h h':Hd} (k:Gh w h R u W):Gh w h' R u (W.setRow w.heap.size h'.c) :=
 ⟨k.be.trans ⟨rfl,rfl,rfl,by simp,fun j hj=>setRow_other _ _ _ _ (by omega)⟩,setRow_heap _ _ _ _ 41 (0,0) k.r0,k.rd.elim fun b hr=>⟨b,(setRow_other _ _ _ _ (by have:=k.l1;omega)).trans hr⟩,k.l1,k.sz⟩
theorem zhL {h:Hd} (W:E) (g:Gh w h R u W) :
 G F 262 #[D (f ⟨R,0,l⟩),d A 8] W fun e w'=>e=H (d C (zaR 1 u 8))∧Gh w h R (zaN 1 u 8) w' :=
 (zgK R u 8 W g.rd g.sz).mono fun e w' ⟨h1,h2,h3⟩=>⟨h1,g.grown h2 h3 (zcB g.sz)⟩
theorem zlU {h:Hd} (W:E) (g:Gh w h R u W) :
 G F 262 #[D (f ⟨R,0,l⟩),d A 1] W fun e w'=>e=H (d C (zaR 1 u 1))∧Gh w h R (zaN 1 u 1) w' :=
 (zgK R u 1 W g.rd g.sz).mono fun e w' ⟨h1,h2,h3⟩=>⟨h1,g.grown h2 h3 (zcB g.sz)⟩
theorem zhM {h:Hd} (W:E) (g:Gh w h R u W) :
 G F 290 #[D (f ⟨R,0,l⟩),d A 8] W fun e w'=>e=H (d C (zaR 2 u 8))∧Gh w h R (zaN 2 u 8) w' :=
 (zgL R u 8 W g.rd g.sz).mono fun e w' ⟨h1,h2,h3⟩=>⟨h1,g.grown h2 h3 (zcB g.sz)⟩
theorem zlV {h:Hd} (W:E) (g:Gh w h R u W) :
 G F 290 #[D (f ⟨R,0,l⟩),d A 1] W fun e w'=>e=H (d C (zaR 2 u 1))∧Gh w h R (zaN 2 u 1) w' :=
 (zgL R u 1 W g.rd g.sz).mono fun e w' ⟨h1,h2,h3⟩=>⟨h1,g.grown h2 h3 (zcB g.sz)⟩
theorem Gh.set3 {h:Hd} (k:Gh w h R u W) (h':Hd) (a b c:Value) (ha:a=d C h'.tm) (hb:b=d A h'.vo) (hc:c=d C h'.cm) :
 Gh w h' R u (((W.setCell ⟨w.heap.size,0,l⟩ a).setCell ⟨w.heap.size,1,l⟩ b).setCell ⟨w.heap.size,2,l⟩ c):=by
 subst ha hb hc;have k1:=heap_setCell_same W w.heap.size 0 _ 41 (d C h'.tm) k.r0;have k2:=heap_setCell_same _ w.heap.size 1 _ 41 (d A h'.vo) k1;have k3:=heap_setCell_same _ w.heap.size 2 _ 41 (d C h'.cm) k2;refine ⟨((k.be.setCell (p:=⟨w.heap.size,0,l⟩) (ztI _) _).setCell (p:=⟨w.heap.size,1,l⟩) (ztI _) _).setCell (p:=⟨w.heap.size,2,l⟩) (ztI _) _,k3,?_,k.l1,k.sz⟩;have l1:=k.l1;obtain ⟨b,hr⟩:=k.rd;refine ⟨b,?_⟩;unfold Rd at hr ⊢;rw [heap_setCell_other _ ⟨w.heap.size,2,l⟩ R _ (by simp;omega),heap_setCell_other _ ⟨w.heap.size,1,l⟩ R _ (by simp;omega),heap_setCell_other _ ⟨w.heap.size,0,l⟩ R _ (by simp;omega)];exact hr
theorem zhN (b:ByteArray) (w:E) (hb:b.size≤281474976710656) (h1:hv b≠1) (h2:hv b≠2):G F 221 #[M b] w fun e w'=>e=H (L #[hd0.val,d A 0,N I])∧B w.heap.size w w':=by
 obtain ⟨W0,hW0⟩:∃ W0,W0=w.alloc (q hd0.c 41):=⟨_,rfl⟩;have b0:B w.heap.size w W0:=by rw [hW0];exact zba
 have k0:W0.heap[w.heap.size]?=f (q hd0.c 41 (0,0)):=by rw [hW0];exact ztJ w _
 have s0:W0.heap.size=w.heap.size+1:=by rw [hW0];simp
 have KN:=zh (zbE b W0);have HB0:=zh b0;have HK0:=zh k0;have HS0:=zh s0;have HW0:=zh hW0;have HBZ:=zh hb;obtain ⟨n,hn⟩:∃ n,n=za1 b 1:=⟨_,rfl⟩;have HV:Hid (((n:Nat):Int)-16≠1∧((n:Nat):Int)-16≠2):=by rw [hn];exact ⟨h1,h2⟩
 have hn1:=zbZ b;rw [←hn] at hn1;have hwr:A.wrap (n:Int)=(n:Int):=IntWalk.i64_in _ (by omega);have hwr2:A.wrap ((n:Int)-16)=(n:Int)-16:=IntWalk.i64_in _ (by omega);have hni:(n:Int)≤255:=by omega
 have HN:=zh hn;clear b0 k0 s0 hW0 h1 h2 hb hn1 hn;unfold rdp at *;go_enter func221,ntmps221
 go_wp2_with fail
 have hz0:(w.alloc (q hd0.c 41))=w.alloc (q #[d C 0,d A 0,d C 0] 41):=rfl;rw [hz0] at HW0;clear hz0;rw [←HW0.out];refine KN.out.mono ?_;rintro e w1 ⟨rfl,hw1⟩;obtain ⟨R,hR⟩:∃ R,R=W0.heap.size:=⟨_,rfl⟩;have r1:Rd 327 R b I w1:=by rw [hw1,hR];exact Rd.new _ _ _ _
 have b1:B W0.heap.size W0 w1:=by rw [hw1];exact zba
 have G1:Hid (Gh w hd0 R b w1):=⟨HB0.out.trans (b1.mono HB0.out.size),(b1.block _ (by have:=HS0.out;omega)).trans HK0.out,⟨_,r1⟩,by have:=HS0.out;omega,HBZ.out⟩;have HRR:=zh hR;clear hw1 r1 b1 hR;rw [←HRR.out]
 have KF:Hid (G F 262 #[D (f ⟨R,0,l⟩),d A 1] w1 fun e w'=>e=H (d C (za1 b 1))∧Gh w hd0 R (zan b 1) w'):=by
  obtain ⟨bad,hr⟩:=G1.out.rd;exact (zaH R b bad 1 w1 hr HBZ.out).mono fun e w' ⟨h1,h2,h3⟩=>⟨h1,G1.out.grown ⟨_,h2⟩ h3 (ztL (zak b 1) HBZ.out)⟩
 unfold rdp at *
 go_wp2_with fail
 refine KF.out.mono ?_;rintro e w3 ⟨rfl,g3⟩;have G3:=zh g3;clear g3 KF KN G1 HK0 HB0 HS0 HW0 HRR;rw [←HN.out]
 go_wp2_with fail
 refine (zbk _).mono ?_;rintro e w4 ⟨rfl,m4,b4,s4⟩;have hl:=zce (T:=323) ((n:Int)-16) underlying323 zero87 m4 (zkq _ _ _ HV.out.1 HV.out.2);have g4:=G3.out.below b4;have K4:=zh g4.r0;have g5:Gh w hd0 R _ (w4.setRow w.heap.size hd0.c):=g4.put;obtain ⟨W5,hW5⟩:∃ W5,W5=w4.setRow w.heap.size hd0.c:=⟨_,rfl⟩;rw [←hW5] at g5;have HB5:=zh g5.be;have HK5:=zh g5.r0;have HW5:=zh hW5;clear m4 b4 s4 hW5 g4 g5
 go_wp2_with (refine zaj rfl _ _ rfl _ _ hd0 hd0 rfl rfl K4.out ?_;refine zab HW5.out.symm ?_;go_frame)
 exact ztP (v:=_) (ziI _ _ w.heap.size hd0 rfl HK5.out) rfl ⟨rfl,HB5.out⟩
theorem zgN (b:ByteArray) (w:E) (hb:b.size≤281474976710656) (hvv:hv b=1):G F 221 #[M b] w fun e w'=>e=H (L #[(jH b).val,d A (jV b),N (jO b)])∧B w.heap.size w w':=by
 obtain ⟨W0,hW0⟩:∃ W0,W0=w.alloc (q hd0.c 41):=⟨_,rfl⟩;have b0:B w.heap.size w W0:=by rw [hW0];exact zba
 have k0:W0.heap[w.heap.size]?=f (q hd0.c 41 (0,0)):=by rw [hW0];exact ztJ w _
 have s0:W0.heap.size=w.heap.size+1:=by rw [hW0];simp
 have KN:=zh (zbE b W0);have HB0:=zh b0;have HK0:=zh k0;have HS0:=zh s0;have HW0:=zh hW0;have HBZ:=zh hb;have HV:Hid (za1 b 1=17):=by show _=_;unfold hv at hvv;omega
 have hrs:rh b=rdH 1 (zan b 1):=by unfold rh;rw [hvv]
 have hok:=zqP b;rw [hrs] at hok;obtain ⟨u,hu0⟩:∃ u,u=zan b 1:=⟨_,rfl⟩;rw [←hu0] at hrs hok;obtain ⟨T,hT⟩:∃ T,T=rdH 1 u:=⟨_,rfl⟩;rw [←hT] at hrs hok;have KP:=zh (fun (W:E)=>zdt 1 T W hok);obtain ⟨r,hr⟩:∃ r,r=hO 1 T:=⟨_,rfl⟩;obtain ⟨p,hp⟩:∃ p,p=hS 1 T:=⟨_,rfl⟩;rw [←hr,←hp] at KP;obtain ⟨te,hte⟩:∃ te,te=(p.toList==b.toList):=⟨_,rfl⟩
 have HG:Hid (jO b=(r&&te)):=by
  show _=_;unfold jO;rw [hvv,hrs,←hr,hte,hp]
  cases hrr:r with
  | false=>rfl
  | true=>unfold hS;rw [←hr,hrr,if_pos rfl]
 have HS:Hid (jH b=if (r&&te)=S then T else hd0):=by show _=_;unfold jH;rw [HG.out,hrs]
 have HJ:Hid (jV b=if (r&&te)=S then 1 else 0):=by show _=_;unfold jV;rw [HG.out,hvv]
 have HTE:=zh hte.symm;have HU0:=zh hu0;have HT:Hid (T.c=#[d C (rdH 1 u).tm,d A (rdH 1 u).vo,d C (rdH 1 u).cm]):=by show _=_;rw [hT,Hd.c]
 have hwe:w64 (zaR 1 (zaN 1 u 8) 1)=wrap64 ((zaR 1 (zaN 1 u 8) 1:Nat):Int):=zgi _;have HA1:Hid (d C (zaR 1 u 8:Nat)=d C T.tm):=by show _=_;rw [hT];unfold rdH k2 k1;dsimp only
 have HA2:Hid (d A (wrap64 ((zaR 1 (zaN 1 u 8) 1:Nat):Int))=d A T.vo):=by show _=_;rw [hT,←hwe];unfold rdH k2 k1;dsimp only
 have HA3:Hid (d C (zaR 1 (zaN 1 (zaN 1 u 8) 1) 8:Nat)=d C T.cm):=by show _=_;rw [hT];unfold rdH k2 k1;dsimp only
 unfold rdH k2 k1 at HT;dsimp only at HT;rw [hwe] at HT;unfold Hd.val at KP;have HX:Hid (T.c=_):=HT.out;have HXA:Hid (Value.agg _=Value.agg T.c):=congrArg Value.agg HX.out.symm;clear b0 k0 s0 hW0 hvv hb hrs hu0 hr hp hte hT HT hok hwe;unfold rdp at *;go_enter func221,ntmps221
 go_wp2_with fail
 have hz0:(w.alloc (q hd0.c 41))=w.alloc (q #[d C 0,d A 0,d C 0] 41):=rfl;rw [hz0] at HW0;clear hz0;rw [←HW0.out];refine KN.out.mono ?_;rintro e w1 ⟨rfl,hw1⟩;obtain ⟨R,hR⟩:∃ R,R=W0.heap.size:=⟨_,rfl⟩;have r1:Rd 327 R b I w1:=by rw [hw1,hR];exact Rd.new _ _ _ _
 have b1:B W0.heap.size W0 w1:=by rw [hw1];exact zba
 have G1:Hid (Gh w hd0 R b w1):=⟨HB0.out.trans (b1.mono HB0.out.size),(b1.block _ (by have:=HS0.out;omega)).trans HK0.out,⟨_,r1⟩,by have:=HS0.out;omega,HBZ.out⟩;have HRR:=zh hR;clear hw1 r1 b1 hR;rw [←HRR.out]
 have KF:Hid (G F 262 #[D (f ⟨R,0,l⟩),d A 1] w1 fun e w'=>e=H (d C (za1 b 1))∧Gh w hd0 R (zan b 1) w'):=by
  obtain ⟨bad,hr⟩:=G1.out.rd;exact (zaH R b bad 1 w1 hr HBZ.out).mono fun e w' ⟨h1,h2,h3⟩=>⟨h1,G1.out.grown ⟨_,h2⟩ h3 (ztL (zak b 1) HBZ.out)⟩
 unfold rdp at *
 go_wp2_with fail
 refine KF.out.mono ?_;rintro e w3 ⟨rfl,g3⟩;have G3:=zh g3;clear g3 KF KN G1 HK0 HB0 HS0 HW0 HRR;rw [←HU0.out] at G3;rw [HV.out]
 go_wp2_with fail
 refine (zbk _).mono ?_;rintro e w4 ⟨rfl,m4,b4,s4⟩;have hl:=zaD (T:=323) 1 (fv 262) underlying323 m4 (zed _ _);have G4:Hid (Gh w hd0 R u w4):=G3.out.below b4;clear m4 b4 s4 G3;have KG:=zh (zhL _ G4.out)
 go_wp2_with fail
 refine KG.out.mono ?_;rintro e y1 ⟨rfl,g1⟩;have G5:=zh g1;clear KG g1 G4;clear hl;have KG:=zh (zlU _ G5.out)
 go_wp2_with fail
 refine KG.out.mono ?_;rintro e y2 ⟨rfl,g2⟩;have G6:=zh g2;clear KG g2 G5;have KG:=zh (zhL _ G6.out)
 go_wp2_with fail
 refine KG.out.mono ?_;rintro e y3 ⟨rfl,g3⟩;have G7:=zh g3;clear KG g3 G6;obtain ⟨x0,x1,x2⟩:=zax G7.out.r0;have fz:∀ i,y3.frozen? ⟨w.heap.size,i,l⟩=I:=fun i=>zt6 G7.out.r0 i;have f0:=fz 0;have f1:=fz 1;have f2:=fz 2;dsimp only [hd0] at x0 x1 x2
 obtain ⟨u9,GV0⟩:∃ u9,Gh w T R u9 (((y3.setCell ⟨w.heap.size,0,l⟩ (d C (zaR 1 u 8:Nat))).setCell ⟨w.heap.size,1,l⟩ (d A (wrap64 ((zaR 1 (zaN 1 u 8) 1:Nat):Int)))).setCell ⟨w.heap.size,2,l⟩ (d C (zaR 1 (zaN 1 (zaN 1 u 8) 1) 8:Nat))) :=
  ⟨_,G7.out.set3 T _ _ _ HA1.out HA2.out HA3.out⟩
 obtain ⟨V,hV⟩:∃ V,V=(((y3.setCell ⟨w.heap.size,0,l⟩ (d C (zaR 1 u 8:Nat))).setCell ⟨w.heap.size,1,l⟩ (d A (wrap64 ((zaR 1 (zaN 1 u 8) 1:Nat):Int)))).setCell ⟨w.heap.size,2,l⟩ (d C (zaR 1 (zaN 1 (zaN 1 u 8) 1) 8:Nat))):=⟨_,rfl⟩;rw [←hV] at GV0;have GV:=zh GV0;have HVV:=zh hV;clear hV G7 GV0 fz
 go_wp2_with fail
 rw [←HVV.out];rw [←HX.out];clear x0 x1 x2 f0 f1 f2;refine (KP.out _).mono ?_;rintro e z ⟨rfl,bz⟩;have Gz:=GV.out.below bz;have hb:=Gz.be;have KZ:Hid (z.heap[w.heap.size]?=f (q T.c 41 (0,0))):=Gz.r0;clear Gz GV HVV HA1 HA2 HA3 HX HXA KP bz HU0;obtain ⟨Z0,hZ0⟩:∃ Z,Z=z.setRow w.heap.size hd0.c:=⟨_,rfl⟩;obtain ⟨Z1,hZ1⟩:∃ Z,Z=z.setRow w.heap.size T.c:=⟨_,rfl⟩;have B0:Hid (B w.heap.size w Z0):=by rw [hZ0];exact hb.trans ⟨rfl,rfl,rfl,by simp,fun k hk=>setRow_other _ _ _ _ (by omega)⟩
 have B1:Hid (B w.heap.size w Z1):=by rw [hZ1];exact hb.trans ⟨rfl,rfl,rfl,by simp,fun k hk=>setRow_other _ _ _ _ (by omega)⟩
 have K0:Hid (Z0.heap[w.heap.size]?=f (q hd0.c 41 (0,0))):=by show _=_;rw [hZ0];exact setRow_heap _ _ _ _ 41 (0,0) KZ.out
 have K1:Hid (Z1.heap[w.heap.size]?=f (q T.c 41 (0,0))):=by show _=_;rw [hZ1];exact setRow_heap _ _ _ _ 41 (0,0) KZ.out
 have HZ0:=zh hZ0;have HZ1:=zh hZ1;clear hZ0 hZ1 hb
 cases r with
 | false =>
   clear HTE
   go_wp2_with (refine zaj rfl _ _ rfl _ _ hd0 T rfl rfl KZ.out ?_;refine zab HZ0.out.symm ?_;go_frame)
   exact ztP (v:=_) (ziI _ _ w.heap.size hd0 rfl K0.out) rfl ⟨by rw [HS.out,HG.out,HJ.out];rfl,B0.out⟩
 | true =>
   cases te with
   | false =>
     have hne:=HTE.out;clear HTE
     go_wp2_with (refine zaj rfl _ _ rfl _ _ hd0 T rfl rfl KZ.out ?_;refine zab HZ0.out.symm ?_;go_frame)
     exact ztP (v:=_) (ziI _ _ w.heap.size hd0 rfl K0.out) rfl ⟨by rw [HS.out,HG.out,HJ.out];rfl,B0.out⟩
   | true =>
     have hne:=HTE.out;clear HTE
     go_wp2_with (first|(refine zb6 rfl _ rfl _ _ T rfl KZ.out ?_;go_frame)|(refine zaj rfl _ _ rfl _ _ T T rfl rfl KZ.out ?_;refine zab HZ1.out.symm ?_;go_frame))
     exact ztP (v:=_) (ziI _ _ w.heap.size T rfl K1.out) rfl ⟨by rw [HS.out,HG.out,HJ.out];rfl,B1.out⟩
theorem zgO (b:ByteArray) (w:E) (hb:b.size≤281474976710656) (hvv:hv b=2):G F 221 #[M b] w fun e w'=>e=H (L #[(jH b).val,d A (jV b),N (jO b)])∧B w.heap.size w w':=by
 obtain ⟨W0,hW0⟩:∃ W0,W0=w.alloc (q hd0.c 41):=⟨_,rfl⟩;have b0:B w.heap.size w W0:=by rw [hW0];exact zba
 have k0:W0.heap[w.heap.size]?=f (q hd0.c 41 (0,0)):=by rw [hW0];exact ztJ w _
 have s0:W0.heap.size=w.heap.size+1:=by rw [hW0];simp
 have KN:=zh (zbE b W0);have HB0:=zh b0;have HK0:=zh k0;have HS0:=zh s0;have HW0:=zh hW0;have HBZ:=zh hb;have HV:Hid (za1 b 1=18):=by show _=_;unfold hv at hvv;omega
 have hrs:rh b=rdH 2 (zan b 1):=by unfold rh;rw [hvv]
 have hok:=zqP b;rw [hrs] at hok;obtain ⟨u,hu0⟩:∃ u,u=zan b 1:=⟨_,rfl⟩;rw [←hu0] at hrs hok;obtain ⟨T,hT⟩:∃ T,T=rdH 2 u:=⟨_,rfl⟩;rw [←hT] at hrs hok;have KP:=zh (fun (W:E)=>zdt 2 T W hok);obtain ⟨r,hr⟩:∃ r,r=hO 2 T:=⟨_,rfl⟩;obtain ⟨p,hp⟩:∃ p,p=hS 2 T:=⟨_,rfl⟩;rw [←hr,←hp] at KP;obtain ⟨te,hte⟩:∃ te,te=(p.toList==b.toList):=⟨_,rfl⟩
 have HG:Hid (jO b=(r&&te)):=by
  show _=_;unfold jO;rw [hvv,hrs,←hr,hte,hp]
  cases hrr:r with
  | false=>rfl
  | true=>unfold hS;rw [←hr,hrr,if_pos rfl]
 have HS:Hid (jH b=if (r&&te)=S then T else hd0):=by show _=_;unfold jH;rw [HG.out,hrs]
 have HJ:Hid (jV b=if (r&&te)=S then 2 else 0):=by show _=_;unfold jV;rw [HG.out,hvv]
 have HTE:=zh hte.symm;have HU0:=zh hu0;have HT:Hid (T.c=#[d C (rdH 2 u).tm,d A (rdH 2 u).vo,d C (rdH 2 u).cm]):=by show _=_;rw [hT,Hd.c]
 have hwe:w64 (zaR 2 (zaN 2 u 8) 1)=wrap64 ((zaR 2 (zaN 2 u 8) 1:Nat):Int):=zgi _;have HA1:Hid (d C (zaR 2 u 8:Nat)=d C T.tm):=by show _=_;rw [hT];unfold rdH k2 k1;dsimp only
 have HA2:Hid (d A (wrap64 ((zaR 2 (zaN 2 u 8) 1:Nat):Int))=d A T.vo):=by show _=_;rw [hT,←hwe];unfold rdH k2 k1;dsimp only
 have HA3:Hid (d C (zaR 2 (zaN 2 (zaN 2 u 8) 1) 8:Nat)=d C T.cm):=by show _=_;rw [hT];unfold rdH k2 k1;dsimp only
 unfold rdH k2 k1 at HT;dsimp only at HT;rw [hwe] at HT;unfold Hd.val at KP;have HX:Hid (T.c=_):=HT.out;have HXA:Hid (Value.agg _=Value.agg T.c):=congrArg Value.agg HX.out.symm;clear b0 k0 s0 hW0 hvv hb hrs hu0 hr hp hte hT HT hok hwe;unfold rdp at *;go_enter func221,ntmps221
 go_wp2_with fail
 have hz0:(w.alloc (q hd0.c 41))=w.alloc (q #[d C 0,d A 0,d C 0] 41):=rfl;rw [hz0] at HW0;clear hz0;rw [←HW0.out];refine KN.out.mono ?_;rintro e w1 ⟨rfl,hw1⟩;obtain ⟨R,hR⟩:∃ R,R=W0.heap.size:=⟨_,rfl⟩;have r1:Rd 327 R b I w1:=by rw [hw1,hR];exact Rd.new _ _ _ _
 have b1:B W0.heap.size W0 w1:=by rw [hw1];exact zba
 have G1:Hid (Gh w hd0 R b w1):=⟨HB0.out.trans (b1.mono HB0.out.size),(b1.block _ (by have:=HS0.out;omega)).trans HK0.out,⟨_,r1⟩,by have:=HS0.out;omega,HBZ.out⟩;have HRR:=zh hR;clear hw1 r1 b1 hR;rw [←HRR.out]
 have KF:Hid (G F 262 #[D (f ⟨R,0,l⟩),d A 1] w1 fun e w'=>e=H (d C (za1 b 1))∧Gh w hd0 R (zan b 1) w'):=by
  obtain ⟨bad,hr⟩:=G1.out.rd;exact (zaH R b bad 1 w1 hr HBZ.out).mono fun e w' ⟨h1,h2,h3⟩=>⟨h1,G1.out.grown ⟨_,h2⟩ h3 (ztL (zak b 1) HBZ.out)⟩
 unfold rdp at *
 go_wp2_with fail
 refine KF.out.mono ?_;rintro e w3 ⟨rfl,g3⟩;have G3:=zh g3;clear g3 KF KN G1 HK0 HB0 HS0 HW0 HRR;rw [←HU0.out] at G3;rw [HV.out]
 go_wp2_with fail
 refine (zbk _).mono ?_;rintro e w4 ⟨rfl,m4,b4,s4⟩;have hl:=zaD (T:=323) 2 (fv 290) underlying323 m4 (zee _ _);have G4:Hid (Gh w hd0 R u w4):=G3.out.below b4;clear m4 b4 s4 G3;have KG:=zh (zhM _ G4.out)
 go_wp2_with fail
 refine KG.out.mono ?_;rintro e y1 ⟨rfl,g1⟩;have G5:=zh g1;clear KG g1 G4;clear hl;have KG:=zh (zlV _ G5.out)
 go_wp2_with fail
 refine KG.out.mono ?_;rintro e y2 ⟨rfl,g2⟩;have G6:=zh g2;clear KG g2 G5;have KG:=zh (zhM _ G6.out)
 go_wp2_with fail
 refine KG.out.mono ?_;rintro e y3 ⟨rfl,g3⟩;have G7:=zh g3;clear KG g3 G6;obtain ⟨x0,x1,x2⟩:=zax G7.out.r0;have fz:∀ i,y3.frozen? ⟨w.heap.size,i,l⟩=I:=fun i=>zt6 G7.out.r0 i;have f0:=fz 0;have f1:=fz 1;have f2:=fz 2;dsimp only [hd0] at x0 x1 x2
 obtain ⟨u9,GV0⟩:∃ u9,Gh w T R u9 (((y3.setCell ⟨w.heap.size,0,l⟩ (d C (zaR 2 u 8:Nat))).setCell ⟨w.heap.size,1,l⟩ (d A (wrap64 ((zaR 2 (zaN 2 u 8) 1:Nat):Int)))).setCell ⟨w.heap.size,2,l⟩ (d C (zaR 2 (zaN 2 (zaN 2 u 8) 1) 8:Nat))) :=
  ⟨_,G7.out.set3 T _ _ _ HA1.out HA2.out HA3.out⟩
 obtain ⟨V,hV⟩:∃ V,V=(((y3.setCell ⟨w.heap.size,0,l⟩ (d C (zaR 2 u 8:Nat))).setCell ⟨w.heap.size,1,l⟩ (d A (wrap64 ((zaR 2 (zaN 2 u 8) 1:Nat):Int)))).setCell ⟨w.heap.size,2,l⟩ (d C (zaR 2 (zaN 2 (zaN 2 u 8) 1) 8:Nat))):=⟨_,rfl⟩;rw [←hV] at GV0;have GV:=zh GV0;have HVV:=zh hV;clear hV G7 GV0 fz
 go_wp2_with fail
 rw [←HVV.out];rw [←HX.out];clear x0 x1 x2 f0 f1 f2;refine (KP.out _).mono ?_;rintro e z ⟨rfl,bz⟩;have Gz:=GV.out.below bz;have hb:=Gz.be;have KZ:Hid (z.heap[w.heap.size]?=f (q T.c 41 (0,0))):=Gz.r0;clear Gz GV HVV HA1 HA2 HA3 HX HXA KP bz HU0;obtain ⟨Z0,hZ0⟩:∃ Z,Z=z.setRow w.heap.size hd0.c:=⟨_,rfl⟩;obtain ⟨Z1,hZ1⟩:∃ Z,Z=z.setRow w.heap.size T.c:=⟨_,rfl⟩;have B0:Hid (B w.heap.size w Z0):=by rw [hZ0];exact hb.trans ⟨rfl,rfl,rfl,by simp,fun k hk=>setRow_other _ _ _ _ (by omega)⟩
 have B1:Hid (B w.heap.size w Z1):=by rw [hZ1];exact hb.trans ⟨rfl,rfl,rfl,by simp,fun k hk=>setRow_other _ _ _ _ (by omega)⟩
 have K0:Hid (Z0.heap[w.heap.size]?=f (q hd0.c 41 (0,0))):=by show _=_;rw [hZ0];exact setRow_heap _ _ _ _ 41 (0,0) KZ.out
 have K1:Hid (Z1.heap[w.heap.size]?=f (q T.c 41 (0,0))):=by show _=_;rw [hZ1];exact setRow_heap _ _ _ _ 41 (0,0) KZ.out
 have HZ0:=zh hZ0;have HZ1:=zh hZ1;clear hZ0 hZ1 hb
 cases r with
 | false =>
   clear HTE
   go_wp2_with (refine zaj rfl _ _ rfl _ _ hd0 T rfl rfl KZ.out ?_;refine zab HZ0.out.symm ?_;go_frame)
   exact ztP (v:=_) (ziI _ _ w.heap.size hd0 rfl K0.out) rfl ⟨by rw [HS.out,HG.out,HJ.out];rfl,B0.out⟩
 | true =>
   cases te with
   | false =>
     have hne:=HTE.out;clear HTE
     go_wp2_with (refine zaj rfl _ _ rfl _ _ hd0 T rfl rfl KZ.out ?_;refine zab HZ0.out.symm ?_;go_frame)
     exact ztP (v:=_) (ziI _ _ w.heap.size hd0 rfl K0.out) rfl ⟨by rw [HS.out,HG.out,HJ.out];rfl,B0.out⟩
   | true =>
     have hne:=HTE.out;clear HTE
     go_wp2_with (first|(refine zb6 rfl _ rfl _ _ T rfl KZ.out ?_;go_frame)|(refine zaj rfl _ _ rfl _ _ T T rfl rfl KZ.out ?_;refine zab HZ1.out.symm ?_;go_frame))
     exact ztP (v:=_) (ziI _ _ w.heap.size T rfl K1.out) rfl ⟨by rw [HS.out,HG.out,HJ.out];rfl,B1.out⟩
theorem ziJ (b:ByteArray) (w:E) (hb:b.size≤281474976710656):G F 221 #[M b] w fun e w'=>e=H (L #[(jH b).val,d A (jV b),N (jO b)])∧B w.heap.size w w':=by
 by_cases h1:hv b=1
 ·exact zgN b w hb h1
 ·by_cases h2:hv b=2
  ·exact zgO b w hb h2
  ·have hg:jO b=I:=by
    unfold jO
    have:hO (hv b) (rh b)=I:=by
     rw [←Bool.not_eq_true,zdm];intro h
     have:=h.1
     omega
    rw [this];rfl
   have hs:jH b=hd0:=by unfold jH;rw [hg];rfl
   have hj:jV b=0:=by unfold jV;rw [hg];rfl
   rw [hg,hs,hj];exact zhN b w hb h1 h2
structure Sl.Su.Ok (s:Su):Prop where
 b0:-9223372036854775808≤s.v∧s.v≤9223372036854775807
 b1:-9223372036854775808≤s.sn∧s.sn≤9223372036854775807
 b2:-9223372036854775808≤s.lg∧s.lg≤9223372036854775807
 b3:-9223372036854775808≤s.ar∧s.ar≤9223372036854775807
 b4:-9223372036854775808≤s.hf∧s.hf≤9223372036854775807
 b5:-9223372036854775808≤s.gl∧s.gl≤9223372036854775807
 b6:-9223372036854775808≤s.sp∧s.sp≤9223372036854775807
end J
end Go.Proofs.YtidndekacnmihaaGreat
