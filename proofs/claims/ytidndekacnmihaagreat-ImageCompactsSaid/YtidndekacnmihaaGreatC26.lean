/- Parts of a proof. -/
import Derived.Test.YtidndekacnmihaaGreatC14
set_option linter.all false
set_option maxHeartbeats 8000000
set_option maxRecDepth 100000
namespace Go.Proofs.YtidndekacnmihaaGreat
open Bool renaming false→j,true→L
open Ending renaming returned→J
open Go renaming World→l,Calls→I
open Go.RowKit renaming Below→B
open Go.RowKit.Below renaming refl→P
open IntKind renaming i64→G
open Obj renaming cells→f
open Option renaming some→d,none→C
open Tryz renaming prog→D
open Value renaming pointer→F,int→H,string→M,tuple→N,bool→O
open Tryz
variable {ops:Array Oper} {rest:List Oper} {op:Oper} {a:Act} {Q:Exit→Act→l→Prop} {w:l} {s:ByteArray}
namespace Ar
open Go.RowKit Vi Dk
theorem sn24:(prog.info? 43).map (·.size)=d 3:=by kernel_rfl
theorem zag (hgd:op.guard=C) (x y:Operand) (ho:op.op=.store 43 x y)
 (w:l) (z:Nat) (s t:Sn) (hx:a.eval x=F (d ⟨z,0,C⟩)) (hy:a.eval y=.agg s.c) (hz:w.heap[z]?=d (f t.c 43 (0,0)))
 (h:wpList D ops Q rest (a.put op.dst undef) (w.setRow z s.c)):wpList D ops Q (op :: rest) a w :=
 wpList_store_row hgd 43 x y ho z _ hx hy 43 _ hz sn24 rfl (by simp [Value.oneCell']) h
theorem zb9 (hgd:op.guard=C) (x:Operand) (ho:op.op=.load 43 x)
 (w:l) (z:Nat) (s:Sn) (hx:a.eval x=F (d ⟨z,0,C⟩)) (hz:w.heap[z]?=d (f s.c 43 (0,0)))
 (h:wpList D ops Q rest (a.put op.dst (.agg s.c)) w):wpList D ops Q (op :: rest) a w :=
 wpList_load_row hgd 43 x ho z hx 43 _ (0,0) _ hz underlying43 rfl sn24 h
theorem ziP (tmps:Array Value) (w:l) (p:Nat) (s:Sn) (hp:tmps.getD 2 undef=F (d ⟨p,0,C⟩)) (hg:w.heap[p]?=d (f s.c 43 (0,0))) :
 (results f183 tmps).run D w=.ok (N #[.agg s.c,tmps.getD 3 undef,tmps.getD 4 undef]) w:=by
 simp only [results,results183];have hp':tmps[2]?.getD undef=F (d ⟨p,0,C⟩):=by simpa using hp
 simp [Sem.run_bind,Result.andThen,hp',asAddr,run_loadVar_row w p 43 43 s.c (0,0) _ hg underlying43 rfl sn24]
abbrev sn0:Sn:=⟨0,0,⟨#[]⟩⟩
theorem zgm {T E:TypeId} {g clock i:Nat} {es:Array MapEntry} (c:Int) (v:Value) (hT:prog.underlying T=d (.map 3 E)) (hb:w.heap[g]?=d (.map es clock))
 (hf:Instr.findNow (.int G) (H G c) es.toList 0=d (d (i,v))) :
 (Instr.lookup T (.map (d g)) (H G c) j).run D w=.ok v w:=by
 have hk:prog.underlying 3=d (.int G):=underlying3;have hc:(Instr.checkKey es.isEmpty 10000 3 (H G c)).run D w=.ok () w:=MapKept.run_checkKey (k:=H G c) hk (by simp [MapKept.IsKey]) es.isEmpty 9999;simp [Instr.lookup,run_underlying hT,MapKept.run_getObj_map hb,hc,MapKept.run_findKey hk hf,Result.andThen]
theorem zbk (g:Nat) (w:l) :
 I D 224 #[rdp g] w fun r w'=>r=J (.map (d (w.heap.size+1)))∧w'.heap[w.heap.size]?=d (f #[.func (.func 262) #[rdp g] #[]] 255 (0,0))∧w'.heap[w.heap.size+1]?=d (.map (two (.func (.func 267) #[] #[F (d ⟨w.heap.size,0,C⟩)]) (.func (.func 268) #[rdp g] #[])) 2)∧B w.heap.size w w':=by
 have hmm:=@run_makeMap D;have hmf:=zmL;obtain ⟨W,hW⟩:∃ W,W=w.alloc (f #[.func (.func 262) #[rdp g] #[]] 255):=⟨_,rfl⟩;have hz:W.heap.size=w.heap.size+1:=by rw [hW];simp
 have hB:B w.heap.size w W:=by rw [hW];exact zba
 have hK:W.heap[w.heap.size]?=d (f #[.func (.func 262) #[rdp g] #[]] 255 (0,0)):=by rw [hW];exact ztJ w _
 obtain ⟨w1,e1,h1,b1,o1,s1⟩:=zaM (T:=292) 1 (.func (.func 267) #[] #[F (d ⟨w.heap.size,0,C⟩)]) underlying292 (ztJ W (.map #[] 0)) rfl zba (ztI _);obtain ⟨w2,e2,h2,b2,o2,s2⟩:=zaM (T:=292) 2 (.func (.func 268) #[rdp g] #[]) underlying292 h1 rfl b1 (ztI _);have H2:Hid (w2.heap[w.heap.size+1]?=d (.map (two (.func (.func 267) #[] #[F (d ⟨w.heap.size,0,C⟩)]) (.func (.func 268) #[rdp g] #[])) 2)):=by rw [←hz];exact h2
 have B2:=zh (hB.trans (b2.mono hB.size));have K2:Hid (w2.heap[w.heap.size]?=d (f #[.func (.func 262) #[rdp g] #[]] 255 (0,0))):=(b2.block _ (by omega)).trans hK;have HW:=zh hW;have HZ:=zh hz;clear h1 h2 b1 b2 o1 o2 s1 s2 hB hK hW hz;unfold rdp at *;go_enter func224,ntmps224
 go_upto_region 2 with fail
 rw [←HW.out];go_wp2;go_ret;rw [HZ.out];exact ⟨rfl,K2.out,H2.out,B2.out⟩
theorem zmw (A g:Nat) (s:ByteArray) (bad:Bool) (w:l) (hA:w.heap[A]?=d (f #[.func (.func 262) #[rdp g] #[]] 255 (0,0))) (h:Rd 327 g s bad w) (hm:s.size≤281474976710656) :
 I D 267 #[F (d ⟨A,0,C⟩)] w fun e w'=>e=J (H .u64 (za1 s 8))∧Rd 327 g (zan s 8) (bad||!za3 s 8) w'∧w.grownBy w' (d g):=by
 have c0:w.cell? ⟨A,0,C⟩=d (.func (.func 262) #[rdp g] #[]):=zcr w A 0 _ 255 (0,0) hA;have K:=zh (zaH g s bad 8 w h hm);unfold rdp at *;clear h hA;go_enter func267,ntmps267
 go_wp2_with fail
 refine K.out.mono ?_;rintro e w1 ⟨rfl,R1,g1⟩;go_wp2;go_ret;exact ⟨rfl,R1,g1⟩
structure Gr (w:l) (R A:Nat) (u:ByteArray) (bad:Bool) (W:l):Prop where
 be:B w.heap.size w W
 r0:W.heap[w.heap.size]?=d (f sn0.c 43 (0,0))
 rd:Rd 327 R u bad W
 ca:W.heap[A]?=d (f #[.func (.func 262) #[rdp R] #[]] 255 (0,0))
 l1:w.heap.size<R
 l2:R<A
 sz:u.size≤281474976710656
theorem Gr.grown {W W':l} {R A:Nat} {u v:ByteArray} {b b':Bool} (h:Gr w R A u b W) (hr:Rd 327 R v b' W') (hg:W.grownBy W' (d R)) (hv:v.size≤281474976710656):Gr w R A v b' W':=by
 have l1:=h.l1;have l2:=h.l2;have lt:=(zgx h.ca);have bl:∀ k,k<W.heap.size→k≠R→W'.heap[k]?=W.heap[k]?:=fun k hk hn=>hg.block k hk (by simpa using hn);exact ⟨zaa h.be hg h.be.size (by omega),(bl _ (by omega) (by omega)).trans h.r0,hr,(bl _ (by omega) (by omega)).trans h.ca,l1,l2,hv⟩
theorem zh2 (s:ByteArray):zbC s s.size=L∧zcG s s.size=s∧zdh s s.size=⟨#[]⟩:=by
 obtain ⟨h1,h2,h3⟩:=ze6 s ⟨#[]⟩;rw [zqr] at h1 h2 h3;exact ⟨h3,h1,h2⟩
theorem zrg (s:ByteArray):(nT s).size≤s.size:=by
 unfold nT
 split
 ·exact ztL (zak _ 4) (zak s 1)
 ·exact ztL (zbz _) (zak s 1)
theorem zeT (s:ByteArray):(nBd s).size≤s.size:=by
 have h1:(nBd s).size≤(nU s).size:=ze9 _ _;have h2:(nU s).size≤(nT s).size:=zbs _ _;exact ztL h1 (ztL h2 (zrg s))
theorem zsz (h:nOk s=j):gtO s=j:=by unfold gtO;rw [h];rfl
theorem zrh (h:nOk s=L):nV s=1∨nV s=2:=by
 by_cases h1:nV s=1
 ·exact .inl h1
 ·by_cases h2:nV s=2
  ·exact .inr h2
  ·unfold nOk at h;rw [ztM h1,ztM h2] at h;simp at h
theorem zmx (b:ByteArray) (w:l) (hb:b.size≤281474976710656) (h:nOk b=j) :
 I D 183 #[M b] w fun e w'=>e=J (N #[(gtS b).v,H G (gtV b),O (gtO b)])∧B w.heap.size w w':=by
 have hO:=zsz h;obtain ⟨hS,hV⟩:=zmy hO;rw [hO,hS,hV];obtain ⟨W,hW⟩:∃ W,W=w.alloc (f sn0.c 43):=⟨_,rfl⟩;have hB:B w.heap.size w W:=by rw [hW];exact (P _ w).alloc (ztI _) _
 have hc:W.heap[w.heap.size]?=d (f sn0.c 43 (0,0)):=by rw [hW];exact ztJ w _
 have KN:=zh (zeJ b W hb);obtain ⟨n1,n2,n3⟩:=zqA h;rw [h,n1,n2,n3] at KN;have HB:=zh hB;have HC:=zh hc;have HW:=zh hW;unfold sn0 Sn.c at HW;dsimp only at HW;clear hB hc hW hO hS hV h n1 n2 n3;go_enter func183,ntmps183
 go_upto_region 1 with fail
 refine zaf (w:=W) HW.out.symm ?_
 go_upto_region 3 with (go_at_call 222;(with_reducible refine KN.out.mono ?_);rintro q w1 ⟨rfl,b1⟩)
 have HC1:=zh ((b1.block _ (zgx HC.out)).trans HC.out);have HB1:=zh (HB.out.trans (b1.mono HB.out.size));obtain ⟨W2,hW2⟩:∃ W2,W2=w1.setRow w.heap.size sn0.c:=⟨_,rfl⟩;have HB2:Hid (B w.heap.size w W2):=by rw [hW2];exact HB1.out.trans ⟨rfl,rfl,rfl,by simp,fun k hk=>setRow_other _ _ _ _ (by have:=HB1.out.size;omega)⟩
 have HC2:Hid (W2.heap[w.heap.size]?=d (f sn0.c 43 (0,0))):=by show _=_;rw [hW2];exact setRow_heap _ _ _ _ 43 (0,0) HC1.out
 have HW2:=zh hW2;clear b1 hW2
 go_wp2_with (refine zag rfl _ _ rfl _ _ sn0 sn0 rfl rfl HC1.out ?_;refine zab HW2.out.symm ?_;go_frame)
 exact ztP (v:=_) (ziP _ _ w.heap.size sn0 rfl HC2.out) rfl ⟨rfl,HB2.out⟩
theorem zri (b:ByteArray) (w:l) (hb:b.size≤281474976710656) (h:nOk b=L) (hv:nV b=1) :
 I D 183 #[M b] w fun e w'=>e=J (N #[(gtS b).v,H G (gtV b),O (gtO b)])∧B w.heap.size w w':=by
 obtain ⟨W,hW⟩:∃ W,W=w.alloc (f sn0.c 43):=⟨_,rfl⟩;have hB:B w.heap.size w W:=by rw [hW];exact (P _ w).alloc (ztI _) _
 have hc:W.heap[w.heap.size]?=d (f sn0.c 43 (0,0)):=by rw [hW];exact ztJ w _
 have KN:=zh (zeJ b W hb);obtain ⟨n1,n2,n3⟩:=ze8 h;rw [h,n1,n2,n3,hv] at KN;have hbz:=ztL (zeT b) hb;obtain ⟨u0,hu0⟩:∃ u,u=nBd b:=⟨_,rfl⟩;rw [←hu0] at KN hbz;obtain ⟨NN,hNN⟩:∃ x:Int,x=(b.size:Int)-(nW b).size:=⟨_,rfl⟩;rw [←hNN] at KN
 have HO:Hid (gtO b=((za3 u0 8&&za3 (zan u0 8) 8)&&decide ((zan (zan u0 8) 8).size≤16384))):=by
  show _=_;unfold gtO bDa bOk bF bT;rw [h,hv,←hu0];rfl
 have HS:Hid (gtS b=if gtO b then ⟨za1 u0 8,za1 (zan u0 8) 8,zan (zan u0 8) 8⟩ else sn0):=by
  show _=_;unfold gtS bDa bI bT;rw [hv,←hu0];rfl
 have HV:Hid (gtV b=if gtO b then 1 else 0):=by
  show _=_;unfold gtV;rw [hv]
 obtain ⟨OO,hOO⟩:∃ x,x=gtO b:=⟨_,rfl⟩;obtain ⟨SS,hSS⟩:∃ x,x=gtS b:=⟨_,rfl⟩;obtain ⟨VV,hVV⟩:∃ x,x=gtV b:=⟨_,rfl⟩;rw [←hOO] at HO HS HV;rw [←hSS] at HS;rw [←hVV] at HV;rw [←hOO,←hSS,←hVV];have hz1:(zan u0 8).size≤281474976710656:=ztL (zak u0 8) hbz;have hz2:(zan (zan u0 8) 8).size≤281474976710656:=ztL (zak (zan u0 8) 8) hz1;have HZ0:=zh hbz;have KF:=fun (R:Nat) (bad:Bool) (W:l) (h:Rd 327 R u0 bad W)=>fun (A:Nat) (hA:W.heap[A]?=d (f #[.func (.func 262) #[rdp R] #[]] 255 (0,0)))=>zmw A R u0 bad W hA h hbz;have KG:=fun (R:Nat) (bad:Bool) (W:l) (h:Rd 327 R (zan u0 8) bad W)=>fun (A:Nat) (hA:W.heap[A]?=d (f #[.func (.func 262) #[rdp R] #[]] 255 (0,0)))=>zmw A R (zan u0 8) bad W hA h hz1;obtain ⟨v0,hv0⟩:∃ x,x=za1 u0 8:=⟨_,rfl⟩;obtain ⟨f0,hf0⟩:∃ x,x=za3 u0 8:=⟨_,rfl⟩;obtain ⟨v1,hv1⟩:∃ x,x=za1 (zan u0 8) 8:=⟨_,rfl⟩;obtain ⟨f1,hf1⟩:∃ x,x=za3 (zan u0 8) 8:=⟨_,rfl⟩;obtain ⟨u2,hu2⟩:∃ x,x=zan (zan u0 8) 8:=⟨_,rfl⟩;rw [←hf0,←hf1,←hu2] at HO;rw [←hv0,←hv1,←hu2] at HS;simp only [←hv0,←hf0] at KF;simp only [←hv1,←hf1,←hu2] at KG;rw [←hu2] at hz2;obtain ⟨u1,hu1⟩:∃ x,x=zan u0 8:=⟨_,rfl⟩;simp only [←hu1] at KF KG;rw [←hu1] at hz1;have HZ1:=zh hz1;have HZ2:=zh hz2;have KF:=zh KF;have KG:=zh KG;obtain ⟨s1,s2,s3⟩:=zh2 u2;have KB:=zh (fun (R:Nat) (bad:Bool) (W:l) (h:Rd 327 R u2 bad W)=>zby R u2 bad (u2.size:Int) W h hz2);simp only [s1,s2,s3] at KB;have HB:=zh hB;have HC:=zh hc;have HW:=zh hW;unfold sn0 Sn.c at HW;dsimp only at HW;clear hB hc hW h n1 n2 n3 hbz hz1 hz2 hOO hSS hVV hv0 hv1 hf0 hf1 hu2 hu1 hu0 hv s1 s2 s3 hNN hb;unfold rdp at *;go_enter func183,ntmps183
 go_upto_region 1 with fail
 refine zaf (w:=W) HW.out.symm ?_
 go_upto_region 4 with (go_at_call 222;(with_reducible refine KN.out.mono ?_);rintro q w1 ⟨rfl,b1⟩)
 have HC1:=zh ((b1.block _ (zgx HC.out)).trans HC.out);have HB1:=zh (HB.out.trans (b1.mono HB.out.size));clear b1 KN
 go_wp2_with fail
 refine (zbE _ _).mono ?_;rintro e w2 ⟨rfl,hw2⟩;obtain ⟨R,hR⟩:∃ R,R=w1.heap.size:=⟨_,rfl⟩;have r2:Rd 327 R u0 j w2:=by rw [hw2,hR];exact Rd.new _ _ _ _
 have b2:B w1.heap.size w1 w2:=by rw [hw2];exact zba
 have hl1:w.heap.size<R:=by rw [hR];exact (zgx HC1.out)
 have HC2:Hid (w2.heap[w.heap.size]?=d (f sn0.c 43 (0,0))):=(b2.block _ (by omega)).trans HC1.out;have HB2:=zh (HB1.out.trans (b2.mono HB1.out.size));have HR2:=zh r2;have HL1:=zh hl1;unfold rdp;rw [←hR];clear hw2 r2 b2 hl1 hR
 go_wp2_with fail
 refine (zbk R w2).mono ?_;rintro e w3 ⟨rfl,a3,m3,b3⟩;have hl:=zgm (T:=292) 1 (.func (.func 267) #[] #[F (d ⟨w2.heap.size,0,C⟩)]) underlying292 m3 (zed _ _)
 have G3:Hid (Gr w R w2.heap.size u0 j w3) :=
  ⟨HB2.out.trans (b3.mono HB2.out.size),(b3.block _ (zgx HC2.out)).trans HC2.out,HR2.out.below b3 HR2.out.lt,a3,HL1.out,HR2.out.lt,HZ0.out⟩
 clear a3 m3 b3 HR2 HC2 HB2;obtain ⟨A,hA⟩:∃ A,A=w2.heap.size:=⟨_,rfl⟩;rw [←hA] at G3 hl;rw [←hA];clear hA;unfold rdp at *
 go_wp2_with fail
 refine (KF.out _ _ _ G3.out.rd _ G3.out.ca).mono ?_;rintro e w4 ⟨rfl,r4,g4⟩;have G4:Hid (Gr w R A u1 (j||!f0) w4):=G3.out.grown r4 g4 HZ1.out;clear r4 g4 G3 hl
 go_wp2_with fail
 refine (KG.out _ _ _ G4.out.rd _ G4.out.ca).mono ?_;rintro e w5 ⟨rfl,r5,g5⟩;have G5:Hid (Gr w R A u2 (j||!f0||!f1) w5):=G4.out.grown r5 g5 HZ2.out;clear r5 g5 G4
 go_wp2_with fail
 refine (zbr R _ _ _ G5.out.rd).mono ?_;rintro e w6 ⟨rfl,rfl⟩
 go_wp2_with fail
 refine (KB.out _ _ _ G5.out.rd).mono ?_;rintro e w7 ⟨rfl,r7,g7⟩;have G7:Hid (Gr w R A ⟨#[]⟩ (j||!f0||!f1||!true) w7):=G5.out.grown r7 g7 (ztO _);clear r7 g7 G5;have HC7:=zh G7.out.r0;obtain ⟨W8,hW8⟩:∃ W8,W8=w7.setRow w.heap.size (Sn.c ⟨v0,v1,u2⟩):=⟨_,rfl⟩;have HB8:Hid (B w.heap.size w W8):=by rw [hW8];exact G7.out.be.trans ⟨rfl,rfl,rfl,by simp,fun k hk=>setRow_other _ _ _ _ (by have:=G7.out.be.size;omega)⟩
 have HC8:Hid (W8.heap[w.heap.size]?=d (f (Sn.c ⟨v0,v1,u2⟩) 43 (0,0))):=by show _=_;rw [hW8];exact setRow_heap _ _ _ _ 43 (0,0) HC7.out
 have HR8:Hid (Rd 327 R ⟨#[]⟩ (j||!f0||!f1||!true) W8):=by
  have:=G7.out.rd
  show Rd _ _ _ _ _;unfold Rd at this ⊢;rw [hW8,setRow_other _ _ _ _ (by have:=HL1.out;omega)];exact this
 have HW8:=zh hW8;clear hW8 G7;unfold Sn.c at *;dsimp only at *
 go_upto_region 7 with (refine zag rfl _ _ rfl _ _ ⟨v0,v1,u2⟩ sn0 rfl rfl HC7.out ?_;refine zab HW8.out.symm ?_;go_frame)
 have K8:=zh (zex R _ _ _ HR8.out);have d2:W8.cell? ⟨w.heap.size,2,C⟩=d (M u2):=(zae (s:=⟨v0,v1,u2⟩) HC8.out).2.2;have hbo:(!(j||!f0||!f1||!true))=(f0&&f1):=by cases f0<;>cases f1<;>rfl
 rw [hbo] at K8;obtain ⟨ff,hff⟩:∃ x,x=(f0&&f1):=⟨_,rfl⟩;rw [←hff] at K8 HO;clear hbo hff HR8 HW8 HC7
 have hzero:∀ (W9:l),W9=W8.setRow w.heap.size sn0.c→B w.heap.size w W9∧W9.heap[w.heap.size]?=d (f sn0.c 43 (0,0)):=fun W9 h9=>by
  rw [h9];exact ⟨HB8.out.trans ⟨rfl,rfl,rfl,by simp,fun k hk=>setRow_other _ _ _ _ (by have:=HB8.out.size;omega)⟩,setRow_heap _ _ _ _ 43 (0,0) HC8.out⟩
 have HZZ:=zh hzero;clear hzero;unfold rdp at *
 cases ff with
 | false =>
   have hO:OO=j:=HO.out;subst hO;obtain rfl:SS=sn0:=HS.out;obtain rfl:VV=0:=HV.out;obtain ⟨W9,hW9⟩:∃ W9,W9=W8.setRow w.heap.size sn0.c:=⟨_,rfl⟩;have H9:=zh (HZZ.out W9 hW9);have HW9:=zh hW9;clear hW9 HZZ HO HS HV
   go_wp2_with (first
    | (go_at_call 227;(with_reducible refine K8.out.mono ?_);rintro q w9 ⟨rfl,rfl⟩)
    | (refine zag rfl _ _ rfl _ _ sn0 ⟨v0,v1,u2⟩ rfl rfl HC8.out ?_;refine zab HW9.out.symm ?_;go_frame))
   exact ztP (v:=_) (ziP _ _ w.heap.size sn0 rfl H9.out.2) rfl ⟨rfl,H9.out.1⟩
 | true =>
   by_cases hd:u2.size≤16384
   ·have hO:OO=L:=by rw [HO.out,ztN hd];rfl
    subst hO;obtain rfl:SS=⟨v0,v1,u2⟩:=HS.out;obtain rfl:VV=1:=HV.out;have hdn:¬ (16384:Int)<u2.size:=by omega
    obtain ⟨W9,hW9⟩:∃ W9,W9=W8.setRow w.heap.size (Sn.c ⟨v0,v1,u2⟩):=⟨_,rfl⟩;have HB9:Hid (B w.heap.size w W9):=by rw [hW9];exact HB8.out.trans ⟨rfl,rfl,rfl,by simp,fun k hk=>setRow_other _ _ _ _ (by have:=HB8.out.size;omega)⟩
    have HC9:Hid (W9.heap[w.heap.size]?=d (f (Sn.c ⟨v0,v1,u2⟩) 43 (0,0))):=by show _=_;rw [hW9];exact setRow_heap _ _ _ _ 43 (0,0) HC8.out
    have HW9:=zh hW9;clear hW9 HZZ HO HS HV hd
    go_wp2_with (first
     | (go_at_call 227;(with_reducible refine K8.out.mono ?_);rintro q w9 ⟨rfl,rfl⟩)
     | (refine zb9 rfl _ rfl _ _ ⟨v0,v1,u2⟩ rfl HC8.out ?_;go_frame)
     | (refine zag rfl _ _ rfl _ _ ⟨v0,v1,u2⟩ ⟨v0,v1,u2⟩ rfl rfl HC8.out ?_;refine zab HW9.out.symm ?_;go_frame))
    exact ztP (v:=_) (ziP _ _ w.heap.size ⟨v0,v1,u2⟩ rfl HC9.out) rfl ⟨rfl,HB9.out⟩
   ·have hO:OO=j:=by rw [HO.out,ztM hd];rfl
    subst hO;obtain rfl:SS=sn0:=HS.out;obtain rfl:VV=0:=HV.out;have hdn:(16384:Int)<u2.size:=by omega
    obtain ⟨W9,hW9⟩:∃ W9,W9=W8.setRow w.heap.size sn0.c:=⟨_,rfl⟩;have H9:=zh (HZZ.out W9 hW9);have HW9:=zh hW9;clear hW9 HZZ HO HS HV hd
    go_wp2_with (first
     | (go_at_call 227;(with_reducible refine K8.out.mono ?_);rintro q w9 ⟨rfl,rfl⟩)
     | (refine zag rfl _ _ rfl _ _ sn0 ⟨v0,v1,u2⟩ rfl rfl HC8.out ?_;refine zab HW9.out.symm ?_;go_frame))
    exact ztP (v:=_) (ziP _ _ w.heap.size sn0 rfl H9.out.2) rfl ⟨rfl,H9.out.1⟩
theorem zrj (b:ByteArray) (w:l) (hb:b.size≤281474976710656) (h:nOk b=L) (hv:nV b=2) :
 I D 183 #[M b] w fun e w'=>e=J (N #[(gtS b).v,H G (gtV b),O (gtO b)])∧B w.heap.size w w':=by
 obtain ⟨W,hW⟩:∃ W,W=w.alloc (f sn0.c 43):=⟨_,rfl⟩;have hB:B w.heap.size w W:=by rw [hW];exact (P _ w).alloc (ztI _) _
 have hc:W.heap[w.heap.size]?=d (f sn0.c 43 (0,0)):=by rw [hW];exact ztJ w _
 have KN:=zh (zeJ b W hb);obtain ⟨n1,n2,n3⟩:=ze8 h;rw [h,n1,n2,n3,hv] at KN;have hbz:=ztL (zeT b) hb;obtain ⟨u0,hu0⟩:∃ u,u=nBd b:=⟨_,rfl⟩;rw [←hu0] at KN hbz;obtain ⟨NN,hNN⟩:∃ x:Int,x=(b.size:Int)-(nW b).size:=⟨_,rfl⟩;rw [←hNN] at KN
 have HO:Hid (gtO b=((zcd u0&&zcd (za2 u0))&&decide ((za2 (za2 u0)).size≤16384))):=by
  show _=_;unfold gtO bDa bOk bF bT;rw [h,hv,←hu0];rfl
 have HS:Hid (gtS b=if gtO b then ⟨zb3 u0,zb3 (za2 u0),za2 (za2 u0)⟩ else sn0):=by
  show _=_;unfold gtS bDa bI bT;rw [hv,←hu0];rfl
 have HV:Hid (gtV b=if gtO b then 2 else 0):=by
  show _=_;unfold gtV;rw [hv]
 obtain ⟨OO,hOO⟩:∃ x,x=gtO b:=⟨_,rfl⟩;obtain ⟨SS,hSS⟩:∃ x,x=gtS b:=⟨_,rfl⟩;obtain ⟨VV,hVV⟩:∃ x,x=gtV b:=⟨_,rfl⟩;rw [←hOO] at HO HS HV;rw [←hSS] at HS;rw [←hVV] at HV;rw [←hOO,←hSS,←hVV];have hz1:(za2 u0).size≤281474976710656:=ztL (zbz u0) hbz;have hz2:(za2 (za2 u0)).size≤281474976710656:=ztL (zbz (za2 u0)) hz1;have HZ0:=zh hbz;have KF:=fun (R:Nat) (bad:Bool) (W:l) (h:Rd 327 R u0 bad W)=>zg4 R u0 bad W h hbz;have KG:=fun (R:Nat) (bad:Bool) (W:l) (h:Rd 327 R (za2 u0) bad W)=>zg4 R (za2 u0) bad W h hz1;obtain ⟨v0,hv0⟩:∃ x,x=zb3 u0:=⟨_,rfl⟩;obtain ⟨f0,hf0⟩:∃ x,x=zcd u0:=⟨_,rfl⟩;obtain ⟨v1,hv1⟩:∃ x,x=zb3 (za2 u0):=⟨_,rfl⟩;obtain ⟨f1,hf1⟩:∃ x,x=zcd (za2 u0):=⟨_,rfl⟩;obtain ⟨u2,hu2⟩:∃ x,x=za2 (za2 u0):=⟨_,rfl⟩;rw [←hf0,←hf1,←hu2] at HO;rw [←hv0,←hv1,←hu2] at HS;simp only [←hv0,←hf0] at KF;simp only [←hv1,←hf1,←hu2] at KG;rw [←hu2] at hz2;obtain ⟨u1,hu1⟩:∃ x,x=za2 u0:=⟨_,rfl⟩;simp only [←hu1] at KF KG;rw [←hu1] at hz1;have HZ1:=zh hz1;have HZ2:=zh hz2;have KF:=zh KF;have KG:=zh KG;obtain ⟨s1,s2,s3⟩:=zh2 u2;have KB:=zh (fun (R:Nat) (bad:Bool) (W:l) (h:Rd 327 R u2 bad W)=>zby R u2 bad (u2.size:Int) W h hz2);simp only [s1,s2,s3] at KB;have HB:=zh hB;have HC:=zh hc;have HW:=zh hW;unfold sn0 Sn.c at HW;dsimp only at HW;clear hB hc hW h n1 n2 n3 hbz hz1 hz2 hOO hSS hVV hv0 hv1 hf0 hf1 hu2 hu1 hu0 hv s1 s2 s3 hNN hb;unfold rdp at *;go_enter func183,ntmps183
 go_upto_region 1 with fail
 refine zaf (w:=W) HW.out.symm ?_
 go_upto_region 4 with (go_at_call 222;(with_reducible refine KN.out.mono ?_);rintro q w1 ⟨rfl,b1⟩)
 have HC1:=zh ((b1.block _ (zgx HC.out)).trans HC.out);have HB1:=zh (HB.out.trans (b1.mono HB.out.size));clear b1 KN
 go_wp2_with fail
 refine (zbE _ _).mono ?_;rintro e w2 ⟨rfl,hw2⟩;obtain ⟨R,hR⟩:∃ R,R=w1.heap.size:=⟨_,rfl⟩;have r2:Rd 327 R u0 j w2:=by rw [hw2,hR];exact Rd.new _ _ _ _
 have b2:B w1.heap.size w1 w2:=by rw [hw2];exact zba
 have hl1:w.heap.size<R:=by rw [hR];exact (zgx HC1.out)
 have HC2:Hid (w2.heap[w.heap.size]?=d (f sn0.c 43 (0,0))):=(b2.block _ (by omega)).trans HC1.out;have HB2:=zh (HB1.out.trans (b2.mono HB1.out.size));have HR2:=zh r2;have HL1:=zh hl1;unfold rdp;rw [←hR];clear hw2 r2 b2 hl1 hR
 go_wp2_with fail
 refine (zbk R w2).mono ?_;rintro e w3 ⟨rfl,a3,m3,b3⟩;have hl:=zgm (T:=292) 2 (.func (.func 268) #[F (d ⟨R,0,C⟩)] #[]) underlying292 m3 (zee _ _)
 have G3:Hid (Gr w R w2.heap.size u0 j w3) :=
  ⟨HB2.out.trans (b3.mono HB2.out.size),(b3.block _ (zgx HC2.out)).trans HC2.out,HR2.out.below b3 HR2.out.lt,a3,HL1.out,HR2.out.lt,HZ0.out⟩
 clear a3 m3 b3 HR2 HC2 HB2;obtain ⟨A,hA⟩:∃ A,A=w2.heap.size:=⟨_,rfl⟩;rw [←hA] at G3 hl;rw [←hA];clear hA;unfold rdp at *
 go_wp2_with fail
 refine (KF.out _ _ _ G3.out.rd).mono ?_;rintro e w4 ⟨rfl,r4,g4⟩;have G4:Hid (Gr w R A u1 (j||!f0) w4):=G3.out.grown r4 g4 HZ1.out;clear r4 g4 G3 hl
 go_wp2_with fail
 refine (KG.out _ _ _ G4.out.rd).mono ?_;rintro e w5 ⟨rfl,r5,g5⟩;have G5:Hid (Gr w R A u2 (j||!f0||!f1) w5):=G4.out.grown r5 g5 HZ2.out;clear r5 g5 G4
 go_wp2_with fail
 refine (zbr R _ _ _ G5.out.rd).mono ?_;rintro e w6 ⟨rfl,rfl⟩
 go_wp2_with fail
 refine (KB.out _ _ _ G5.out.rd).mono ?_;rintro e w7 ⟨rfl,r7,g7⟩;have G7:Hid (Gr w R A ⟨#[]⟩ (j||!f0||!f1||!true) w7):=G5.out.grown r7 g7 (ztO _);clear r7 g7 G5;have HC7:=zh G7.out.r0;obtain ⟨W8,hW8⟩:∃ W8,W8=w7.setRow w.heap.size (Sn.c ⟨v0,v1,u2⟩):=⟨_,rfl⟩;have HB8:Hid (B w.heap.size w W8):=by rw [hW8];exact G7.out.be.trans ⟨rfl,rfl,rfl,by simp,fun k hk=>setRow_other _ _ _ _ (by have:=G7.out.be.size;omega)⟩
 have HC8:Hid (W8.heap[w.heap.size]?=d (f (Sn.c ⟨v0,v1,u2⟩) 43 (0,0))):=by show _=_;rw [hW8];exact setRow_heap _ _ _ _ 43 (0,0) HC7.out
 have HR8:Hid (Rd 327 R ⟨#[]⟩ (j||!f0||!f1||!true) W8):=by
  have:=G7.out.rd
  show Rd _ _ _ _ _;unfold Rd at this ⊢;rw [hW8,setRow_other _ _ _ _ (by have:=HL1.out;omega)];exact this
 have HW8:=zh hW8;clear hW8 G7;unfold Sn.c at *;dsimp only at *
 go_upto_region 7 with (refine zag rfl _ _ rfl _ _ ⟨v0,v1,u2⟩ sn0 rfl rfl HC7.out ?_;refine zab HW8.out.symm ?_;go_frame)
 have K8:=zh (zex R _ _ _ HR8.out);have d2:W8.cell? ⟨w.heap.size,2,C⟩=d (M u2):=(zae (s:=⟨v0,v1,u2⟩) HC8.out).2.2;have hbo:(!(j||!f0||!f1||!true))=(f0&&f1):=by cases f0<;>cases f1<;>rfl
 rw [hbo] at K8;obtain ⟨ff,hff⟩:∃ x,x=(f0&&f1):=⟨_,rfl⟩;rw [←hff] at K8 HO;clear hbo hff HR8 HW8 HC7
 have hzero:∀ (W9:l),W9=W8.setRow w.heap.size sn0.c→B w.heap.size w W9∧W9.heap[w.heap.size]?=d (f sn0.c 43 (0,0)):=fun W9 h9=>by
  rw [h9];exact ⟨HB8.out.trans ⟨rfl,rfl,rfl,by simp,fun k hk=>setRow_other _ _ _ _ (by have:=HB8.out.size;omega)⟩,setRow_heap _ _ _ _ 43 (0,0) HC8.out⟩
 have HZZ:=zh hzero;clear hzero;unfold rdp at *
 cases ff with
 | false =>
   have hO:OO=j:=HO.out;subst hO;obtain rfl:SS=sn0:=HS.out;obtain rfl:VV=0:=HV.out;obtain ⟨W9,hW9⟩:∃ W9,W9=W8.setRow w.heap.size sn0.c:=⟨_,rfl⟩;have H9:=zh (HZZ.out W9 hW9);have HW9:=zh hW9;clear hW9 HZZ HO HS HV
   go_wp2_with (first
    | (go_at_call 227;(with_reducible refine K8.out.mono ?_);rintro q w9 ⟨rfl,rfl⟩)
    | (refine zag rfl _ _ rfl _ _ sn0 ⟨v0,v1,u2⟩ rfl rfl HC8.out ?_;refine zab HW9.out.symm ?_;go_frame))
   exact ztP (v:=_) (ziP _ _ w.heap.size sn0 rfl H9.out.2) rfl ⟨rfl,H9.out.1⟩
 | true =>
   by_cases hd:u2.size≤16384
   ·have hO:OO=L:=by rw [HO.out,ztN hd];rfl
    subst hO;obtain rfl:SS=⟨v0,v1,u2⟩:=HS.out;obtain rfl:VV=2:=HV.out;have hdn:¬ (16384:Int)<u2.size:=by omega
    obtain ⟨W9,hW9⟩:∃ W9,W9=W8.setRow w.heap.size (Sn.c ⟨v0,v1,u2⟩):=⟨_,rfl⟩;have HB9:Hid (B w.heap.size w W9):=by rw [hW9];exact HB8.out.trans ⟨rfl,rfl,rfl,by simp,fun k hk=>setRow_other _ _ _ _ (by have:=HB8.out.size;omega)⟩
    have HC9:Hid (W9.heap[w.heap.size]?=d (f (Sn.c ⟨v0,v1,u2⟩) 43 (0,0))):=by show _=_;rw [hW9];exact setRow_heap _ _ _ _ 43 (0,0) HC8.out
    have HW9:=zh hW9;clear hW9 HZZ HO HS HV hd
    go_wp2_with (first
     | (go_at_call 227;(with_reducible refine K8.out.mono ?_);rintro q w9 ⟨rfl,rfl⟩)
     | (refine zb9 rfl _ rfl _ _ ⟨v0,v1,u2⟩ rfl HC8.out ?_;go_frame)
     | (refine zag rfl _ _ rfl _ _ ⟨v0,v1,u2⟩ ⟨v0,v1,u2⟩ rfl rfl HC8.out ?_;refine zab HW9.out.symm ?_;go_frame))
    exact ztP (v:=_) (ziP _ _ w.heap.size ⟨v0,v1,u2⟩ rfl HC9.out) rfl ⟨rfl,HB9.out⟩
   ·have hO:OO=j:=by rw [HO.out,ztM hd];rfl
    subst hO;obtain rfl:SS=sn0:=HS.out;obtain rfl:VV=0:=HV.out;have hdn:(16384:Int)<u2.size:=by omega
    obtain ⟨W9,hW9⟩:∃ W9,W9=W8.setRow w.heap.size sn0.c:=⟨_,rfl⟩;have H9:=zh (HZZ.out W9 hW9);have HW9:=zh hW9;clear hW9 HZZ HO HS HV hd
    go_wp2_with (first
     | (go_at_call 227;(with_reducible refine K8.out.mono ?_);rintro q w9 ⟨rfl,rfl⟩)
     | (refine zag rfl _ _ rfl _ _ sn0 ⟨v0,v1,u2⟩ rfl rfl HC8.out ?_;refine zab HW9.out.symm ?_;go_frame))
    exact ztP (v:=_) (ziP _ _ w.heap.size sn0 rfl H9.out.2) rfl ⟨rfl,H9.out.1⟩
theorem zo0 (b:ByteArray) (w:l) (hb:b.size≤281474976710656) :
 I D 183 #[M b] w fun e w'=>e=J (N #[(gtS b).v,H G (gtV b),O (gtO b)])∧B w.heap.size w w':=by
 cases h:nOk b with
 | false=>exact zmx b w hb h
 | true =>
   rcases zrh h with hv|hv
   ·exact zri b w hb h hv
   ·exact zrj b w hb h hv
end Ar
end Go.Proofs.YtidndekacnmihaaGreat
