/- Parts of a proof. -/
import Derived.Test.YtidndekacnmihaaGreatC13
set_option linter.all false
set_option maxHeartbeats 8000000
set_option maxRecDepth 100000
namespace Go.Proofs.YtidndekacnmihaaGreat
open Bool renaming true→C,false→L
open Ending renaming returned→K
open Go renaming World→F,Calls→I,Value→S
open Go.RowKit renaming Below→M
open Go.RowKit.Below renaming refl→X
open IntKind renaming i64→D,u64→R
open Lib renaming strCells→N,OthersKept→U,byteCells→V
open Obj renaming cells→P
open Option renaming some→q,none→z
open Tryz renaming prog→G
open Value renaming int→A,pointer→H,tuple→O,string→Q,slice→Y,ownBlock→Z
open Tryz
variable {B b:Nat} {x:ByteArray} {w w0 w1:F}
namespace J
open Go.RowKit Vi
namespace Sl
structure Su where
 v:Int
 sn:Int
 lg:Int
 ar:Int
 hf:Int
 gl:Int
 sp:Int
def Su.c (s:Su):Array S:=#[A D s.v,A D s.sn,A D s.lg,A D s.ar,A D s.hf,A D s.gl,A D s.sp]
def Su.val (s:Su):S:=.agg s.c
def su0:Su:=⟨0,0,0,0,0,0,0⟩
structure Hd where
 tm:Nat
 vo:Int
 cm:Nat
def Hd.c (h:Hd):Array S:=#[A R h.tm,A D h.vo,A R h.cm]
def Hd.val (h:Hd):S:=.agg h.c
def hd0:Hd:=⟨0,0,0⟩
def ins (n lo hi:Int):Bool:=decide (lo≤n)&&decide (n≤hi)
def rgt (s:Su):Bool:=ins s.v 1 2&&(ins s.sn 1 1000&&(ins s.lg 1 1000&&(ins s.ar 0 1&&(ins s.hf 0 1&&(ins s.gl 0 2&&(ins s.sp 0 9&&(decide (s.gl≠0)||decide (s.sp=0))))))))
theorem zbj (s:Su):rgt s=C↔(1≤s.v∧s.v≤2)∧(1≤s.sn∧s.sn≤1000)∧(1≤s.lg∧s.lg≤1000)∧(0≤s.ar∧s.ar≤1)∧(0≤s.hf∧s.hf≤1)∧(0≤s.gl∧s.gl≤2)∧(0≤s.sp∧s.sp≤9)∧(s.gl≠0∨s.sp=0):=by
 unfold rgt ins;simp only [ztZ,zuD,decide_eq_true_eq]
def num (v:Int) (n k:Nat):ByteArray:=if v=1 then fxB n k else zaE n
def zaR (v:Int) (s:ByteArray) (k:Nat):Nat:=if v=1 then za1 s k else zb3 s
def zaN (v:Int) (s:ByteArray) (k:Nat):ByteArray:=if v=1 then zan s k else za2 s
theorem zad (v:Int) (n k:Nat) (hk:k≤8) (hn:n<18446744073709551616):(num v n k).size≤10:=by
 unfold num
 split
 ·rw [zac n k hk];omega
 ·exact zaW n hn
theorem ztq (k:Nat) (hk:k≤8):256 ^ k≤18446744073709551616:=ztL (Nat.pow_le_pow_right (by omega) hk) (by decide)
theorem zcA (v:Int) (n k:Nat) (hk:k≤8) (hn:n<256 ^ k) (t:ByteArray):zaR v (num v n k++t) k=n∧zaN v (num v n k++t) k=t:=by
 unfold zaR zaN num
 split
 ·obtain ⟨h1,h2,_⟩:=zcb n k hk t;exact ⟨by rw [h1,zuj hn],h2⟩
 ·obtain ⟨h1,h2,_⟩:=ziB n (zuk hn (ztq k hk)) t;exact ⟨h1,h2⟩
theorem zgG (v:Int) (s:ByteArray) (k:Nat) (hk:k≤8):zaR v s k<18446744073709551616:=by
 unfold zaR
 split
 ·unfold za1
  split
  ·rw [ztV];exact zuk (zbO (nums s) (zaG s) k) (ztq k hk)
  ·omega
 ·exact zm2 s
theorem zlN (v:Int) (s:ByteArray) (k:Nat):(zaN v s k).size≤s.size:=by
 unfold zaN
 split
 ·exact zak s k
 ·exact zbz s
def w64 (n:Nat):Int:=D.wrap (n:Int)
theorem zbQ (n:Nat) (h:n<9223372036854775808):w64 n=n:=by
 unfold w64;simp [IntKind.wrap,IntKind.bits,IntKind.signed];omega
theorem zhw (n:Nat):-9223372036854775808≤w64 n∧w64 n≤9223372036854775807:=by
 unfold w64;simp [IntKind.wrap,IntKind.bits,IntKind.signed];omega
def zbn (s:Su):ByteArray:=fxB s.v.toNat 1++num s.v s.sn.toNat 2++num s.v s.lg.toNat 2++num s.v s.ar.toNat 1++num s.v s.hf.toNat 1++num s.v s.gl.toNat 1++num s.v s.sp.toNat 1
def zis (s:Su):ByteArray:=if rgt s then zbn s else ⟨#[]⟩
def u1 (v:Int) (u:ByteArray):ByteArray:=zaN v u 2
def u2 (v:Int) (u:ByteArray):ByteArray:=zaN v (u1 v u) 2
def u3 (v:Int) (u:ByteArray):ByteArray:=zaN v (u2 v u) 1
def u4 (v:Int) (u:ByteArray):ByteArray:=zaN v (u3 v u) 1
def u5 (v:Int) (u:ByteArray):ByteArray:=zaN v (u4 v u) 1
def rv (b:ByteArray):Int:=(za1 b 1:Nat)
def rdS (v:Int) (u:ByteArray):Su:=⟨v,w64 (zaR v u 2),w64 (zaR v (u1 v u) 2),w64 (zaR v (u2 v u) 1),w64 (zaR v (u3 v u) 1),w64 (zaR v (u4 v u) 1),w64 (zaR v (u5 v u) 1)⟩
def zs0 (v:Int) (u:ByteArray):Su:=⟨v,(zaR v u 2 % 9999:Nat),(zaR v (u1 v u) 2 % 9999:Nat),(zaR v (u2 v u) 1 % 99:Nat),(zaR v (u3 v u) 1 % 99:Nat),(zaR v (u4 v u) 1 % 99:Nat),(zaR v (u5 v u) 1 % 99:Nat)⟩
def rs (b:ByteArray):Su:=rdS (rv b) (zan b 1)
def rs2 (b:ByteArray):Su:=zs0 (rv b) (zan b 1)
def gO (b:ByteArray):Bool:=rgt (rs b)&&((zbn (rs b)).toList==b.toList)
def gO2 (b:ByteArray):Bool:=rgt (rs2 b)&&((zbn (rs2 b)).toList==b.toList)
def gS (b:ByteArray):Su:=if gO b then rs b else su0
theorem zhx (t:ByteArray):t++(⟨#[]⟩:ByteArray)=t:=by apply ByteArray.ext;simp
theorem zfh {s:Su} (h:rgt s=C):rs (zbn s)=s∧rs2 (zbn s)=s:=by
 obtain ⟨v,sn,lg,ar,hf,gl,sp⟩:=s;obtain ⟨h1,h2,h3,h4,h5,h6,h7,_⟩:=(zbj _).1 h;dsimp only at h1 h2 h3 h4 h5 h6 h7;obtain ⟨v,rfl⟩:=ztW (by omega:0≤v);obtain ⟨a,rfl⟩:=ztW (by omega:0≤sn);obtain ⟨b,rfl⟩:=ztW (by omega:0≤lg);obtain ⟨c,rfl⟩:=ztW (by omega:0≤ar);obtain ⟨d,rfl⟩:=ztW (by omega:0≤hf);obtain ⟨e,rfl⟩:=ztW (by omega:0≤gl);obtain ⟨f,rfl⟩:=ztW (by omega:0≤sp)
 have E:zbn ⟨v,a,b,c,d,e,f⟩=fxB v (1:Nat)++(num v a 2++(num v b 2++(num v c 1++(num v d 1++(num v e 1++(num v f 1++⟨#[]⟩)))))):=by
  unfold zbn;simp only [ztV,zaK,zhx];rfl
 obtain ⟨p1,p2,_⟩:=zcb v 1 (by omega) (num v a 2++(num v b 2++(num v c 1++(num v d 1++(num v e 1++(num v f 1++⟨#[]⟩))))));rw [←E] at p1 p2;obtain ⟨q1,q2⟩:=zcA v a 2 (by omega) (by omega) (num v b 2++(num v c 1++(num v d 1++(num v e 1++(num v f 1++⟨#[]⟩)))));obtain ⟨r1,r2⟩:=zcA v b 2 (by omega) (by omega) (num v c 1++(num v d 1++(num v e 1++(num v f 1++⟨#[]⟩))));obtain ⟨s1,s2⟩:=zcA v c 1 (by omega) (by omega) (num v d 1++(num v e 1++(num v f 1++⟨#[]⟩)));obtain ⟨t1,t2⟩:=zcA v d 1 (by omega) (by omega) (num v e 1++(num v f 1++⟨#[]⟩));obtain ⟨w1,w2⟩:=zcA v e 1 (by omega) (by omega) (num v f 1++⟨#[]⟩);obtain ⟨x1,x2⟩:=zcA v f 1 (by omega) (by omega) ⟨#[]⟩
 have hv:rv (zbn ⟨v,a,b,c,d,e,f⟩)=v:=by
  unfold rv
  have:=p1
  rw [show ((1:Nat):Int)=1 from rfl] at this;rw [this,zuj (by omega)]
 have hp2:zan (zbn ⟨v,a,b,c,d,e,f⟩) 1=num v a 2++(num v b 2++(num v c 1++(num v d 1++(num v e 1++(num v f 1++⟨#[]⟩))))):=p2;unfold rs rs2;rw [hv,hp2];unfold rdS zs0 u5 u4 u3 u2 u1;rw [q2,r2,s2,t2,w2,q1,r1,s1,t1,w1,x1];rw [zbQ a (by omega),zbQ b (by omega),zbQ c (by omega),zbQ d (by omega),zbQ e (by omega),zbQ f (by omega)];rw [zuj (by omega:a<9999),zuj (by omega:b<9999),zuj (by omega:c<99),zuj (by omega:d<99),zuj (by omega:e<99),zuj (by omega:f<99)];exact ⟨rfl,rfl⟩
theorem zdP (b:ByteArray):gO b=C↔∃ s,rgt s=C∧b=zbn s:=by
 unfold gO;rw [ztZ,zcQ];constructor
 ·rintro ⟨h1,h2⟩;exact ⟨_,h1,h2.symm⟩
 ·rintro ⟨s,h1,rfl⟩;rw [(zfh h1).1];exact ⟨h1,rfl⟩
theorem zqO (b:ByteArray):gO2 b=C↔∃ s,rgt s=C∧b=zbn s:=by
 unfold gO2;rw [ztZ,zcQ];constructor
 ·rintro ⟨h1,h2⟩;exact ⟨_,h1,h2.symm⟩
 ·rintro ⟨s,h1,rfl⟩;rw [(zfh h1).2];exact ⟨h1,rfl⟩
theorem zlO (b:ByteArray):gO2 b=gO b:=by
 rw [Bool.eq_iff_iff,zdP,zqO]
theorem zsb {b:ByteArray} (h:gO b=C):rs2 b=rs b:=by
 obtain ⟨s,h1,rfl⟩:=(zdP b).1 h;rw [(zfh h1).1,(zfh h1).2]
theorem zp4 {s:Su} (h:rgt s=C):gO (zbn s)=C:=(zdP _).2 ⟨s,h,rfl⟩
theorem zp5 {s:Su} (h:rgt s=C):gS (zbn s)=s:=by unfold gS;rw [if_pos (zp4 h)];exact (zfh h).1
theorem zhy {s:Su} (h:rgt s=C):(zbn s).size≤61∧0<(zbn s).size:=by
 obtain ⟨h1,h2,h3,h4,h5,h6,h7,_⟩:=(zbj _).1 h;have e1:=zac s.v.toNat 1 (by omega);have e2:=zad s.v s.sn.toNat 2 (by omega) (by omega);have e3:=zad s.v s.lg.toNat 2 (by omega) (by omega);have e4:=zad s.v s.ar.toNat 1 (by omega) (by omega);have e5:=zad s.v s.hf.toNat 1 (by omega) (by omega);have e6:=zad s.v s.gl.toNat 1 (by omega) (by omega);have e7:=zad s.v s.sp.toNat 1 (by omega) (by omega);unfold zbn;have e1':(fxB s.v.toNat 1).size=1:=e1;simp only [ztS,e1'];omega
def sec (s:Su):Int:=if rgt s then 4+2*(s.sn+s.lg) else 0
def hO (v:Int) (h:Hd):Bool:=(decide (v=1)||decide (v=2))&&ins h.vo 0 7
theorem zdm (v:Int) (h:Hd):hO v h=C↔(v=1∨v=2)∧0≤h.vo∧h.vo≤7:=by
 unfold hO ins;simp only [ztZ,zuD,decide_eq_true_eq]
def hB (v:Int) (h:Hd):ByteArray:=fxB (16+v).toNat 1++num v h.tm 8++num v h.vo.toNat 1++num v h.cm 8
def hS (v:Int) (h:Hd):ByteArray:=if hO v h then hB v h else ⟨#[]⟩
def hv (b:ByteArray):Int:=(za1 b 1:Nat)-16
def k1 (v:Int) (u:ByteArray):ByteArray:=zaN v u 8
def k2 (v:Int) (u:ByteArray):ByteArray:=zaN v (k1 v u) 1
def rdH (v:Int) (u:ByteArray):Hd:=⟨zaR v u 8,w64 (zaR v (k1 v u) 1),zaR v (k2 v u) 8⟩
def zs1 (v:Int) (u:ByteArray):Hd:=⟨zaR v u 8,(zaR v (k1 v u) 1 % 99:Nat),zaR v (k2 v u) 8⟩
def rh (b:ByteArray):Hd:=rdH (hv b) (zan b 1)
def rh2 (b:ByteArray):Hd:=zs1 (hv b) (zan b 1)
structure Hd.Ok (h:Hd):Prop where
 t:h.tm<18446744073709551616
 c:h.cm<18446744073709551616
 v1:-9223372036854775808≤h.vo
 v2:h.vo≤9223372036854775807
theorem zqP (b:ByteArray):(rh b).Ok:=⟨zgG _ _ _ (by omega),zgG _ _ _ (by omega),(zhw _).1,(zhw _).2⟩
theorem zp6 (b:ByteArray):(rh2 b).Ok:=⟨zgG _ _ _ (by omega),zgG _ _ _ (by omega),by show _≤((_:Nat):Int);omega,by show ((_:Nat):Int)≤_;omega⟩
def jO (b:ByteArray):Bool:=hO (hv b) (rh b)&&((hB (hv b) (rh b)).toList==b.toList)
def jO2 (b:ByteArray):Bool:=hO (hv b) (rh2 b)&&((hB (hv b) (rh2 b)).toList==b.toList)
def jH (b:ByteArray):Hd:=if jO b then rh b else hd0
def jV (b:ByteArray):Int:=if jO b then hv b else 0
theorem zec {v:Int} {h:Hd} (hh:hO v h=C) (ho:h.Ok):hv (hB v h)=v∧rh (hB v h)=h∧rh2 (hB v h)=h:=by
 obtain ⟨tm,vo,cm⟩:=h;obtain ⟨h1,h2,h3⟩:=(zdm _ _).1 hh;obtain ⟨ht,hc,_,_⟩:=ho;dsimp only at h2 h3 ht hc;obtain ⟨x,rfl⟩:=ztW h2;obtain ⟨y,hy⟩:=ztW (by omega:0≤16+v)
 have E:hB v ⟨tm,x,cm⟩=fxB y (1:Nat)++(num v tm 8++(num v x 1++(num v cm 8++⟨#[]⟩))):=by
  unfold hB;rw [hy];simp only [ztV,zaK,zhx];rfl
 obtain ⟨p1,p2,_⟩:=zcb y 1 (by omega) (num v tm 8++(num v x 1++(num v cm 8++⟨#[]⟩)));rw [←E] at p1 p2;obtain ⟨q1,q2⟩:=zcA v tm 8 (by omega) (by omega) (num v x 1++(num v cm 8++⟨#[]⟩));obtain ⟨r1,r2⟩:=zcA v x 1 (by omega) (by omega) (num v cm 8++⟨#[]⟩);obtain ⟨s1,s2⟩:=zcA v cm 8 (by omega) (by omega) ⟨#[]⟩
 have hvv:hv (hB v ⟨tm,x,cm⟩)=v:=by
  unfold hv
  have:=p1
  rw [show ((1:Nat):Int)=1 from rfl] at this;rw [this,zuj (by omega)];omega
 have hp2:zan (hB v ⟨tm,x,cm⟩) 1=num v tm 8++(num v x 1++(num v cm 8++⟨#[]⟩)):=p2;refine ⟨hvv,?_⟩;unfold rh rh2;rw [hvv,hp2];unfold rdH zs1 k2 k1;rw [q2,r2,q1,r1,s1];rw [zbQ x (by omega),zuj (by omega:x<99)];exact ⟨rfl,rfl⟩
theorem zlP (b:ByteArray):jO b=C↔∃ v h,hO v h=C∧Hd.Ok h∧b=hB v h:=by
 unfold jO;rw [ztZ,zcQ];constructor
 ·rintro ⟨h1,h2⟩;exact ⟨_,_,h1,zqP b,h2.symm⟩
 ·rintro ⟨v,h,h1,h2,rfl⟩;obtain ⟨e1,e2,_⟩:=zec h1 h2;rw [e1,e2];exact ⟨h1,rfl⟩
theorem zqQ (b:ByteArray):jO2 b=C↔∃ v h,hO v h=C∧Hd.Ok h∧b=hB v h:=by
 unfold jO2;rw [ztZ,zcQ];constructor
 ·rintro ⟨h1,h2⟩;exact ⟨_,_,h1,zp6 b,h2.symm⟩
 ·rintro ⟨v,h,h1,h2,rfl⟩;obtain ⟨e1,_,e2⟩:=zec h1 h2;rw [e1,e2];exact ⟨h1,rfl⟩
theorem zsc (b:ByteArray):jO2 b=jO b:=by
 rw [Bool.eq_iff_iff,zlP,zqQ]
theorem zsd {b:ByteArray} (h:jO b=C):rh2 b=rh b:=by
 obtain ⟨v,x,h1,h2,rfl⟩:=(zlP b).1 h;obtain ⟨_,e2,e3⟩:=zec h1 h2;rw [e2,e3]
theorem ziD {v:Int} {h:Hd} (h1:hO v h=C) (h2:h.Ok):jO (hB v h)=C:=(zlP _).2 ⟨v,h,h1,h2,rfl⟩
theorem zqR {v:Int} {h:Hd} (h1:hO v h=C) (h2:h.Ok):jH (hB v h)=h∧jV (hB v h)=v:=by
 obtain ⟨e1,e2,_⟩:=zec h1 h2;unfold jH jV;rw [if_pos (ziD h1 h2),if_pos (ziD h1 h2)];exact ⟨e2,e1⟩
theorem zgH {v:Int} {h:Hd} (hh:hO v h=C) (ho:h.Ok):(hB v h).size≤31∧0<(hB v h).size:=by
 obtain ⟨h1,h2,h3⟩:=(zdm _ _).1 hh;obtain ⟨ht,hc,_,_⟩:=ho;have e1':(fxB (16+v).toNat 1).size=1:=zac (16+v).toNat 1 (by omega);have e2:=zad v h.tm 8 (by omega) ht;have e3:=zad v h.vo.toNat 1 (by omega) (by omega);have e4:=zad v h.cm 8 (by omega) hc;unfold hB;simp only [ztS,e1'];omega
end Sl
theorem zfq:(prog.info? 151).map (·.size)=q 2:=by kernel_rfl
theorem wlies:liesAt G prog.depth 230 (2 / prog.cellsOf 230) 0 151 1=C:=by kernel_rfl
theorem ziN:prog.cellsOf 5=1:=by kernel_rfl
theorem zdv (b:Nat) (w:F) (h0:w.cell? ⟨b,0,z⟩=q (H (q ⟨b,0,z⟩))) :
 I G 149 #[H (q ⟨b,0,z⟩)] w fun e w'=>e=K (O #[])∧w'=w:=by
 obtain ⟨j,hj,_⟩:=Option.map_eq_some_iff.1 zfq;go_enter func149,ntmps149;go_wp2;rw [Lib.run_neq_ptr_same w _ underlying149 hj];go_wp2;go_end0;exact ⟨rfl,rfl⟩
theorem zcU (b:Nat) (w:F) (h0:w.cell? ⟨b,0,z⟩=q (H z)) (hsh:w.shape? b=q (230,2)) (hfz:w.frozen? ⟨b,0,z⟩=L) :
 I G 149 #[H (q ⟨b,0,z⟩)] w fun e w'=>e=K (O #[])∧w'=w.setCell ⟨b,0,z⟩ (H (q ⟨b,0,z⟩)):=by
 obtain ⟨j,hj,hjs⟩:=Option.map_eq_some_iff.1 zfq;go_enter func149,ntmps149;go_wp2;rw [Lib.run_to_unsafe w ⟨b,0,z⟩ underlying149 underlying265 hj (by rw [hjs];decide) hsh (Nat.zero_lt_succ 1)];simp only [Result.andThen];rw [Oper.upon_value];go_wp2;rw [run_callFunc_extern func199 (by kernel_rfl) (by kernel_rfl) (by kernel_rfl) (e:=Extern.AbiNoEscape.same) (by kernel_rfl)];rw [Lib.run_noEscape];simp only [Result.andThen];rw [Oper.upon_value];go_wp2;rw [Lib.run_from_unsafe w ⟨b,0,z⟩ underlying265 underlying149 hj hsh wlies];simp only [Result.andThen];rw [Oper.upon_value];go_wp2;go_end0;exact ⟨rfl,rfl⟩
theorem wcheck (B b:Nat) (bs:List S) (w:F) (h:Lib.IsBuilder 230 5 B b bs w) :
 I G 149 #[H (q ⟨b,0,z⟩)] w fun e w'=>e=K (O #[])∧Lib.BuilderAt 230 5 B b (H (q ⟨b,0,z⟩)) bs w'∧M B w w'∧U 5 (q b) w w':=by
 rcases h with h|h
 ·refine (zcU b w h.cell0 h.shape h.frozen0).mono ?_;rintro e w' ⟨rfl,rfl⟩;exact ⟨rfl,h.used _,(X B w).setCell (p:=⟨b,0,z⟩) h.1 _,(Lib.OthersKept.refl _ _ w).setCell ⟨b,0,z⟩ rfl _⟩
 ·refine (zdv b w h.cell0).mono ?_;rintro e w' ⟨rfl,rfl⟩;exact ⟨rfl,h,X B _,Lib.OthersKept.refl _ _ _⟩
def Wt (B b:Nat) (x:ByteArray) (w:F):Prop:=Lib.IsBuilder 230 5 B b (N x) w
theorem zb1 (x s:ByteArray):N x++N s=N (x++s):=by
 unfold N
 simp
theorem wwrite (B b:Nat) (x s:ByteArray) (w:F) (h:Wt B b x w) (hlen:x.size+s.size≤140737488355328) (hBw:B≤w.heap.size) :
 I G 182 #[H (q ⟨b,0,z⟩),Q s] w fun e w'=>e=K (O #[A D s.size,.nilIface])∧Wt B b (x++s) w'∧M B w w'∧U 5 (q b) w w':=by
 obtain ⟨i0,hi,hz0,hz1,hz2⟩:=info_parts info5;have hck:=zh (wcheck B b _ w h);clear h;have hlx:=zuL x;go_enter func182,ntmps182
 go_wp2_with (go_at_call 149;refine hck.out.mono ?_)
 rintro e w1 ⟨rfl,h1,hb1,ho1⟩;obtain ⟨hB,v,hbk,hown,hne⟩:=h1;have c0:w1.cell? ⟨b,0,z⟩=q (H (q ⟨b,0,z⟩)):=by rw [zuo hbk];rfl
 have c1:w1.cell? ⟨b,1,z⟩=q v:=by rw [zuo hbk];rfl
 go_wp2_with (at_builtin;refine Lib.wpList_append_own_string _ rfl _ _ 78 9 rfl B 5 i0 underlying78 underlying9 hi hz0 hz1 hz2 _ _ _ rfl hown s rfl ?c3 ?c4 ?c5 ?_)
 case c3=>unfold maxLen;omega
 case c4=>omega
 case c5=>have:=hb1.size;omega
 intro v' w2 hown' hgrow _;have hlt:b<w1.heap.size:=(zgx hbk)
 have hb2:w2.heap[b]?=q (P #[H (q ⟨b,0,z⟩),v] 230 (0,0)):=by
  rw [hgrow.block b hlt (fun e=>hne e.symm)];exact hbk
 have d0:w2.cell? ⟨b,0,z⟩=q (H (q ⟨b,0,z⟩)):=by rw [zuo hb2];rfl
 have d1:w2.cell? ⟨b,1,z⟩=q v:=by rw [zuo hb2];rfl
 have f1:w2.frozen? ⟨b,1,z⟩=L:=zt6 hb2 1
 obtain ⟨ao,n',cap,rfl⟩:∃ ao n' cap,v'=.slice ao n' cap:=by
  rcases hown'.2 with ⟨hv,_⟩|⟨g,cap,cur,hv,_⟩
  ·exact ⟨_,_,_,hv⟩
  ·exact ⟨_,_,_,hv⟩
 go_wp2;go_ret2;refine ⟨rfl,?_,?_,?_⟩
 ·refine .inr ?_;rw [←zb1];exact Lib.BuilderAt.put (T:=230) (e:=5) hB hb2 (bs':=N x++N s) (by simpa [zuL] using hown') (by decide)
 ·exact (hb1.grown hgrow (by have:=hb1.size;omega) (fun k hk=>(hown.lt k hk).1)).setCell (p:=⟨b,1,z⟩) hB _
 ·refine (ho1.trans ?_:U 5 (q b) w w2).setCell ⟨b,1,z⟩ rfl _;refine (Lib.OthersKept.refl 5 (q b) w1).grown hgrow fun g hg=>?_;rcases hown.2 with ⟨hv,_⟩|⟨g',cap',cur,hv,_,hg',_⟩
  ·rw [hv] at hg;simp [Z] at hg
  ·rw [hv] at hg;simp only [Z,Option.some.injEq] at hg;subst hg;exact ⟨cur,_,hg'⟩
theorem zb7 (x:ByteArray):N x=V x.data.toList:=by
 unfold N V
 simp
theorem wstring (B b:Nat) (x:ByteArray) (w:F) (h:Wt B b x w) (hx:0<x.size) :
 I G 94 #[H (q ⟨b,0,z⟩)] w fun e w'=>e=K (Q x)∧M B w w':=by
 obtain ⟨p,hB,v,hbk,hown,hne⟩:∃ p,Lib.BuilderAt 230 5 B b p (V x.data.toList) w:=by
  unfold Wt at h;rw [zb7] at h;rcases h with h|h
  ·exact ⟨_,h⟩
  ·exact ⟨_,h⟩
 obtain ⟨l,hl⟩:∃ l,l=x.data.toList:=⟨_,rfl⟩;have hxe:x=⟨l.toArray⟩:=by rw [hl]
 have hl0:l.length≠0:=by rw [hl];simp;intro e;rw [e] at hx;exact absurd hx (by decide)
 have hne0:l≠[]:=fun e=>hl0 (by rw [e];rfl);rw [←hl] at hown;rw [hxe];clear hxe hl hx h;rw [zuf] at hown
 obtain ⟨g,cap,cur,rfl,hbg,hg,hnc,hcm,hcs,htake⟩:∃ g cap cur,v=Y (q ⟨g,0,z⟩) l.length cap∧B≤g∧w.heap[g]?=q (P cur 5 (0,0))∧l.length≤cap∧cap≤maxLen∧cur.size=cap*1∧cur.toList.take (l.length*1)=V l:=by
  rcases hown.2 with ⟨_,hz⟩|⟨g,cap,cur,hv,r⟩
  ·exact absurd hz hl0
  ·exact ⟨g,cap,cur,hv,r⟩
 have c1:w.drew.cell? ⟨b,1,z⟩=q (Y (q ⟨g,0,z⟩) l.length cap):=by
  have:w.drew.heap[b]?=q (P #[p,Y (q ⟨g,0,z⟩) l.length cap] 230 (0,0)):=hbk
  rw [zuo this];rfl
 have hSD:(Builtin.unsafeSliceData_ #[78] 215 #[Y (q ⟨g,0,z⟩) l.length cap]).run G w.drew=.ok (H (q ⟨g,0,z⟩)) w.drew :=
  Lib.run_unsafeSliceData_row _ _ _ _ _ _ (by omega)
 have hUS:(Builtin.unsafeString_ #[215,3] 9 #[H (q ⟨g,0,z⟩),A D l.length]).run G w.drew=.ok (Q ⟨l.toArray⟩) (w.drew.freeze ⟨g,0,z⟩ l.length):=by
  refine Lib.run_unsafeString_row w.drew 215 3 9 5 underlying215 ziN g cur.size (by have hg':w.drew.heap[g]?=q (P cur 5 (0,0)):=hg;simp [World.shape?,hg']) l hne0 (by omega) (by unfold maxLen at hcm;omega) ?_;intro j x hx
  have:=hown.cells (g:=g) rfl j (A .u8 x.toNat) (by simp [V,hx])
  exact this
 have mixed:prog.follows Departure.mixedOrders=C:=by kernel_rfl
 go_enter func94,ntmps94;go_wp2
 go_region_o
 all_goals (go_wp2;go_ret;exact ⟨rfl,Lib.below_freeze (Below.drew (X B w)) (p:=⟨g,0,z⟩) hbg _⟩)
structure Ws (w0:F) (B b:Nat) (x:ByteArray) (w:F):Prop where
 t:Wt B b x w
 be:M B w0 w
 ok:U 5 (q b) w0 w
 sz:B≤w.heap.size
 sw:w0.heap.size≤w.heap.size
theorem Wt.below (h:Wt B b x w) (hb:M w.heap.size w w1):Wt B b x w1:=by
 have key:∀ p,Lib.BuilderAt 230 5 B b p (N x) w→Lib.BuilderAt 230 5 B b p (N x) w1:=by
  rintro p ⟨hB,v,hbk,hown,hne⟩;refine ⟨hB,v,(hb.block b (zgx hbk)).trans hbk,?_,hne⟩
  exact hown.kept (row:=z) ⟨hb.os,hb.tape,hb.output,hb.size,fun k hk _=>hb.block k hk⟩ (by
   cases hv:v.ownBlock with
   | none=>exact .inl rfl
   | some k=>exact .inr (by simp))
 rcases h with h|h
 ·exact .inl (key _ h)
 ·exact .inr (key _ h)
theorem OthersKept.of_below {b:Option Nat} (hb:M w.heap.size w w1):U 5 b w w1:=fun i o hi h1 h2=>(hb.block i (zgx hi)).trans hi
theorem Ws.below (h:Ws w0 B b x w) (hb:M w.heap.size w w1):Ws w0 B b x w1 :=
 ⟨h.t.below hb,h.be.trans (hb.mono h.sz),h.ok.trans (OthersKept.of_below hb),ztL h.sz hb.size,ztL h.sw hb.size⟩
theorem Ws.drew (h:Ws w0 B b x w):Ws w0 B b x w.drew:=⟨h.t,h.be.drew,h.ok,h.sz,h.sw⟩
theorem Ws.start (h:Wt B b x w) (hB:B≤w.heap.size):Ws w B b x w:=⟨h,X _ _,Lib.OthersKept.refl _ _ _,hB,ztI _⟩
theorem zaZ (B b n:Nat) (k:Nat) (x:ByteArray) (w:F) (h:Wt B b x w) (hlen:x.size≤140737488000000) (hB:B≤w.heap.size) (hk:k≤8) :
 I G 166 #[H (q ⟨b,0,z⟩),A R n,A D k] w fun e w'=>e=K (O #[])∧Ws w B b (x++Vi.fxB n k) w':=by
 have hfs:(Vi.fxB n k).size≤8:=by rw [Vi.zac n k hk];exact hk
 obtain ⟨s,hs⟩:∃ s,s=Vi.fxB n k:=⟨_,rfl⟩;have K1:Hid (∀ W,Ws w B b x W→I G 212 #[A R n,A D k] W fun e w'=>e=K (Q s)∧Ws w B b x w'):=fun W hW=>(zbm n k W).mono fun e w' ⟨h1,h2⟩=>⟨by rw [h1,hs],hW.below h2⟩;have K2:Hid (∀ W,Ws w B b x W→I G 182 #[H (q ⟨b,0,z⟩),Q s] W fun e w'=>e=K (O #[A D s.size,.nilIface])∧Ws w B b (x++s) w'):=fun W hW=>(wwrite B b x s W hW.t (by rw [hs];omega) hW.sz).mono fun e w' ⟨h1,h2,h3,h4⟩=>⟨h1,h2,hW.be.trans h3,hW.ok.trans h4,ztL hW.sz h3.size,ztL hW.sw h3.size⟩;have S0:Ws w B b x w:=Ws.start h hB;have S1:=S0.drew;rw [←hs];clear h hlen hB hk hfs hs;go_enter func166,ntmps166
 go_region_held3 (fun _=>True) (trivial) (first
  | (go_at_call 212;(with_reducible refine (K1.out _ (by assumption)).mono ?_);rintro r w6 ⟨rfl,s5⟩)
  | (go_at_call 182;(with_reducible refine (K2.out _ (by assumption)).mono ?_);rintro r w7 ⟨rfl,s6⟩))
 all_goals
  go_wp2;go_end0;exact ⟨rfl,s6⟩
open Sl
theorem zaL (n lo hi:Int) (w:F):I G 156 #[A D n,A D lo,A D hi] w fun e w'=>e=K (.bool (ins n lo hi))∧w'=w:=by
 unfold ins
 by_cases h1:lo≤n
 ·have d1:decide (lo≤n)=C:=ztN h1;rw [d1,zt8]
  by_cases h2:n≤hi
  ·have d2:decide (n≤hi)=C:=ztN h2;rw [d2];go_enter func156,ntmps156;go_wp2;go_ret;exact ⟨rfl,rfl⟩
  ·have d2:decide (n≤hi)=L:=ztM h2;rw [d2];go_enter func156,ntmps156;go_wp2;go_ret;exact ⟨rfl,rfl⟩
 ·have d1:decide (lo≤n)=L:=ztM h1;rw [d1,zun];go_enter func156,ntmps156;go_wp2;go_ret;exact ⟨rfl,rfl⟩
def sbx (w:F) (s:Su):F:=w.alloc (P s.c 65)
theorem zcg (w:F) (s:Su):(sbx w s).heap[w.heap.size]?=q (P s.c 65 (0,0)):=ztJ w _
theorem zch (w:F) (s:Su):M w.heap.size w (sbx w s):=zba
theorem zau {g:Nat} {s:Su} (h:w.heap[g]?=q (P s.c 65 (0,0))) :
 w.cell? ⟨g,0,z⟩=q (A D s.v)∧w.cell? ⟨g,1,z⟩=q (A D s.sn)∧w.cell? ⟨g,2,z⟩=q (A D s.lg)∧w.cell? ⟨g,3,z⟩=q (A D s.ar)∧w.cell? ⟨g,4,z⟩=q (A D s.hf)∧w.cell? ⟨g,5,z⟩=q (A D s.gl)∧w.cell? ⟨g,6,z⟩=q (A D s.sp) :=
 ⟨zcr w g 0 _ 65 (0,0) h,zcr w g 1 _ 65 (0,0) h,zcr w g 2 _ 65 (0,0) h,zcr w g 3 _ 65 (0,0) h,zcr w g 4 _ 65 (0,0) h,zcr w g 5 _ 65 (0,0) h,zcr w g 6 _ 65 (0,0) h⟩
theorem zbR (s:Su) (w:F):I G 104 #[s.val] w fun e w'=>e=K (.bool (rgt s))∧M w.heap.size w w':=by
 obtain ⟨W,hW⟩:∃ W,W=sbx w s:=⟨_,rfl⟩;obtain ⟨c0,c1,c2,c3,c4,c5,c6⟩:=zau (zcg w s);have hb:=zch w s;rw [←hW] at c0 c1 c2 c3 c4 c5 c6 hb;have K0:=fun (W:F)=>zaL s.v 1 2 W;obtain ⟨b0,hb0⟩:∃ b,b=ins s.v 1 2:=⟨_,rfl⟩;rw [←hb0] at K0;have HK0:=zh K0;have K1:=fun (W:F)=>zaL s.sn 1 1000 W;obtain ⟨b1,hb1⟩:∃ b,b=ins s.sn 1 1000:=⟨_,rfl⟩;rw [←hb1] at K1;have HK1:=zh K1;have K2:=fun (W:F)=>zaL s.lg 1 1000 W;obtain ⟨b2,hb2⟩:∃ b,b=ins s.lg 1 1000:=⟨_,rfl⟩;rw [←hb2] at K2;have HK2:=zh K2;have K3:=fun (W:F)=>zaL s.ar 0 1 W;obtain ⟨b3,hb3⟩:∃ b,b=ins s.ar 0 1:=⟨_,rfl⟩;rw [←hb3] at K3;have HK3:=zh K3;have K4:=fun (W:F)=>zaL s.hf 0 1 W;obtain ⟨b4,hb4⟩:∃ b,b=ins s.hf 0 1:=⟨_,rfl⟩;rw [←hb4] at K4;have HK4:=zh K4;have K5:=fun (W:F)=>zaL s.gl 0 2 W;obtain ⟨b5,hb5⟩:∃ b,b=ins s.gl 0 2:=⟨_,rfl⟩;rw [←hb5] at K5;have HK5:=zh K5;have K6:=fun (W:F)=>zaL s.sp 0 9 W;obtain ⟨b6,hb6⟩:∃ b,b=ins s.sp 0 9:=⟨_,rfl⟩;rw [←hb6] at K6;have HK6:=zh K6;have HR:Hid (rgt s=(b0&&(b1&&(b2&&(b3&&(b4&&(b5&&(b6&&(decide (s.gl≠0)||decide (s.sp=0)))))))))):=by show _=_;rw [hb0,hb1,hb2,hb3,hb4,hb5,hb6];rfl
 obtain ⟨r,hr⟩:∃ r,r=rgt s:=⟨_,rfl⟩;rw [←hr] at HR ⊢;have HW:=zh hW;have HB:=zh hb;clear hr hb hW K0 K1 K2 K3 K4 K5 K6 hb0 hb1 hb2 hb3 hb4 hb5 hb6;unfold sbx Su.val Su.c at *;go_enter func104,ntmps104
 go_wp2_with fail
 rw [←HW.out];refine (HK0.out _).mono ?_;rintro e w1 ⟨rfl,rfl⟩
 cases b0 with
 | false =>
   obtain rfl:r=L:=HR.out;go_wp2;go_ret;exact ⟨rfl,HB.out⟩
 | true =>
   go_wp2_with fail
   refine (HK1.out _).mono ?_;rintro e w1 ⟨rfl,rfl⟩
   cases b1 with
   | false =>
     obtain rfl:r=L:=HR.out;go_wp2;go_ret;exact ⟨rfl,HB.out⟩
   | true =>
     go_wp2_with fail
     refine (HK2.out _).mono ?_;rintro e w1 ⟨rfl,rfl⟩
     cases b2 with
     | false =>
       obtain rfl:r=L:=HR.out;go_wp2;go_ret;exact ⟨rfl,HB.out⟩
     | true =>
       go_wp2_with fail
       refine (HK3.out _).mono ?_;rintro e w1 ⟨rfl,rfl⟩
       cases b3 with
       | false =>
         obtain rfl:r=L:=HR.out;go_wp2;go_ret;exact ⟨rfl,HB.out⟩
       | true =>
         go_wp2_with fail
         refine (HK4.out _).mono ?_;rintro e w1 ⟨rfl,rfl⟩
         cases b4 with
         | false =>
           obtain rfl:r=L:=HR.out;go_wp2;go_ret;exact ⟨rfl,HB.out⟩
         | true =>
           go_wp2_with fail
           refine (HK5.out _).mono ?_;rintro e w1 ⟨rfl,rfl⟩
           cases b5 with
           | false =>
             obtain rfl:r=L:=HR.out;go_wp2;go_ret;exact ⟨rfl,HB.out⟩
           | true =>
             go_wp2_with fail
             refine (HK6.out _).mono ?_;rintro e w1 ⟨rfl,rfl⟩
             cases b6 with
             | false =>
               obtain rfl:r=L:=HR.out;go_wp2;go_ret;exact ⟨rfl,HB.out⟩
             | true =>
               by_cases h:s.gl=0
               ·have e1:(s.gl != 0)=L:=by simpa using h
                by_cases h2:s.sp=0
                ·obtain rfl:r=C:=by have:=HR.out;rw [ztN h2,zus] at this;exact this
                 have e2:(s.sp==0)=C:=by simpa using h2
                 go_wp2;go_ret;exact ⟨rfl,HB.out⟩
                ·obtain rfl:r=L:=by have:=HR.out;rw [ztM h2,ztM (by simpa using h)] at this;exact this
                 have e2:(s.sp==0)=L:=by simpa using h2
                 go_wp2;go_ret;exact ⟨rfl,HB.out⟩
               ·have e1:(s.gl != 0)=C:=by simpa using h
                obtain rfl:r=C:=by have:=HR.out;rw [ztN (by simpa using h)] at this;exact this
                go_wp2;go_ret;exact ⟨rfl,HB.out⟩
theorem zeK (w:F) :
 I G 165 #[] w fun r w'=>r=K (.map (q w.heap.size))∧w'.heap[w.heap.size]?=q (.map (two (fv 166) (fv 210)) 2)∧M w.heap.size w w'∧w'.heap.size=w.heap.size+1:=by
 have hmm:=@run_makeMap G;obtain ⟨w1,e1,h1,b1,_,s1⟩:=zaM (T:=227) 1 (fv 166) underlying227 (ztJ w (.map #[] 0)) rfl zba (ztI _);obtain ⟨w2,e2,h2,b2,_,s2⟩:=zaM (T:=227) 2 (fv 210) underlying227 h1 rfl b1 (ztI _);have H2:Hid (w2.heap[w.heap.size]?=q (.map (two (fv 166) (fv 210)) 2)):=h2;have B2:=zh b2;have S2:Hid (w2.heap.size=w.heap.size+1):=by show _=_;rw [s2,s1];simp
 clear h1 h2 b1 b2 s1 s2;go_enter func165,ntmps165;go_wp2;go_ret;exact ⟨rfl,H2.out,B2.out,S2.out⟩
theorem zbk (w:F) :
 I G 263 #[] w fun r w'=>r=K (.map (q w.heap.size))∧w'.heap[w.heap.size]?=q (.map (two (fv 262) (fv 290)) 2)∧M w.heap.size w w'∧w'.heap.size=w.heap.size+1:=by
 have hmm:=@run_makeMap G;obtain ⟨w1,e1,h1,b1,_,s1⟩:=zaM (T:=323) 1 (fv 262) underlying323 (ztJ w (.map #[] 0)) rfl zba (ztI _);obtain ⟨w2,e2,h2,b2,_,s2⟩:=zaM (T:=323) 2 (fv 290) underlying323 h1 rfl b1 (ztI _);have H2:Hid (w2.heap[w.heap.size]?=q (.map (two (fv 262) (fv 290)) 2)):=h2;have B2:=zh b2;have S2:Hid (w2.heap.size=w.heap.size+1):=by show _=_;rw [s2,s1];simp
 clear h1 h2 b1 b2 s1 s2;go_enter func263,ntmps263;go_wp2;go_ret;exact ⟨rfl,H2.out,B2.out,S2.out⟩
theorem zeM (B b n:Nat) (k:Int) (x:ByteArray) (w:F) (h:Wt B b x w) (hlen:x.size≤140737488000000) (hB:B≤w.heap.size) (hn:n<18446744073709551616) :
 I G 210 #[H (q ⟨b,0,z⟩),A R n,A D k] w fun e w'=>e=K (O #[])∧Ws w B b (x++Vi.zaE n) w':=by
 have hfs:=zaW n hn;obtain ⟨s,hs⟩:∃ s,s=Vi.zaE n:=⟨_,rfl⟩;have K1:Hid (∀ W,Ws w B b x W→I G 211 #[A R n] W fun e w'=>e=K (Q s)∧Ws w B b x w'):=fun W hW=>(zcX n W hn).mono fun e w' ⟨h1,h2⟩=>⟨by rw [h1,hs],hW.below h2⟩;have K2:Hid (∀ W,Ws w B b x W→I G 182 #[H (q ⟨b,0,z⟩),Q s] W fun e w'=>e=K (O #[A D s.size,.nilIface])∧Ws w B b (x++s) w'):=fun W hW=>(wwrite B b x s W hW.t (by rw [hs];omega) hW.sz).mono fun e w' ⟨h1,h2,h3,h4⟩=>⟨h1,h2,hW.be.trans h3,hW.ok.trans h4,ztL hW.sz h3.size,ztL hW.sw h3.size⟩;have S0:Ws w B b x w:=Ws.start h hB;have S1:=S0.drew;rw [←hs];clear h hlen hB hn hfs hs;go_enter func210,ntmps210
 go_region_held3 (fun _=>True) (trivial) (first
  | (go_at_call 211;(with_reducible refine (K1.out _ (by assumption)).mono ?_);rintro r w6 ⟨rfl,s5⟩)
  | (go_at_call 182;(with_reducible refine (K2.out _ (by assumption)).mono ?_);rintro r w7 ⟨rfl,s6⟩))
 all_goals
  go_wp2;go_end0;exact ⟨rfl,s6⟩
theorem zbS (s:Su) (w:F):I G 38 #[s.val] w fun e w'=>e=K (A D (sec s))∧M w.heap.size w w':=by
 obtain ⟨W,hW⟩:∃ W,W=sbx w s:=⟨_,rfl⟩;obtain ⟨c0,c1,c2,c3,c4,c5,c6⟩:=zau (zcg w s);have hc:=zcg w s;have hb:=zch w s;have hsz:(sbx w s).heap.size=w.heap.size+1:=by simp [sbx]
 rw [←hW] at c0 c1 c2 c3 c4 c5 c6 hb hc hsz;have HK:=zh (fun (W:F)=>zbR s W);have HI:=zh (zbj s);have HS:Hid (sec s=if rgt s then 4+2*(s.sn+s.lg) else 0):=rfl;obtain ⟨r,hr⟩:∃ r,r=rgt s:=⟨_,rfl⟩;rw [←hr] at HK HS HI;have HC:=zh hc;have HZ:=zh hsz;have HW:=zh hW;have HB:=zh hb;clear hr hb hW c0 c1 c2 c3 c4 c5 c6 hc hsz;unfold sbx Su.val Su.c at *;go_enter func38,ntmps38
 go_wp2_with fail
 rw [←HW.out];refine (HK.out _).mono ?_;rintro e w1 ⟨rfl,b1⟩;have HB1:=zh (HB.out.trans (b1.mono HB.out.size))
 cases r with
 | false =>
   have hs:Hid (sec s=0):=HS.out;go_wp2;go_ret;exact ⟨by rw [hs.out];rfl,HB1.out⟩
 | true =>
   have hs:Hid (sec s=4+2*(s.sn+s.lg)):=HS.out;obtain ⟨_,h2,h3,_⟩:=HI.out.1 rfl;have hc1:w1.heap[w.heap.size]?=q (P s.c 65 (0,0)):=(b1.block _ (by have:=HZ.out;omega)).trans HC.out;obtain ⟨c0,c1,c2,c3,c4,c5,c6⟩:=zau hc1;clear HC HZ HW HB b1 hc1;go_wp2;go_ret;exact ⟨by rw [hs.out];rfl,HB1.out⟩
end J
end Go.Proofs.YtidndekacnmihaaGreat
