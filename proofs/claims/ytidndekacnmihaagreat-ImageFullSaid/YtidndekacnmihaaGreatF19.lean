/- Parts of a proof. -/
import Derived.Test.YtidndekacnmihaaGreatF13
set_option linter.unusedVariables false
set_option linter.unusedSimpArgs false
set_option maxHeartbeats 8000000
set_option maxRecDepth 100000
namespace Go.Proofs.YtidndekacnmihaaGreat.J
open Go.RowKit Vi
namespace Sl
structure Su where
 v:Int
 sn:Int
 lg:Int
 ar:Int
 hf:Int
 gl:Int
 sp:Int
def Su.c (s:Su):Array Value:=#[.int .i64 s.v,.int .i64 s.sn,.int .i64 s.lg,.int .i64 s.ar,.int .i64 s.hf,.int .i64 s.gl,.int .i64 s.sp]
def Su.val (s:Su):Value:=.agg s.c
def su0:Su:=⟨0,0,0,0,0,0,0⟩
structure Hd where
 tm:Nat
 vo:Int
 cm:Nat
def Hd.c (h:Hd):Array Value:=#[.int .u64 h.tm,.int .i64 h.vo,.int .u64 h.cm]
def Hd.val (h:Hd):Value:=.agg h.c
def hd0:Hd:=⟨0,0,0⟩
def ins (n lo hi:Int):Bool:=decide (lo≤n)&&decide (n≤hi)
def rgt (s:Su):Bool:=ins s.v 1 2&&(ins s.sn 1 1000&&(ins s.lg 1 1000&&(ins s.ar 0 1&&(ins s.hf 0 1&&(ins s.gl 0 2&&(ins s.sp 0 9&&(decide (s.gl≠0)||decide (s.sp=0))))))))
theorem zbi (s:Su):rgt s=true↔(1≤s.v∧s.v≤2)∧(1≤s.sn∧s.sn≤1000)∧(1≤s.lg∧s.lg≤1000)∧(0≤s.ar∧s.ar≤1)∧(0≤s.hf∧s.hf≤1)∧(0≤s.gl∧s.gl≤2)∧(0≤s.sp∧s.sp≤9)∧(s.gl≠0∨s.sp=0):=by
 unfold rgt ins;simp only [zsR,ztu,decide_eq_true_eq]
def num (v:Int) (n k:Nat):ByteArray:=if v=1 then fxB n k else zaH n
def zaP (v:Int) (s:ByteArray) (k:Nat):Nat:=if v=1 then zaZ s k else zbY s
def zaM (v:Int) (s:ByteArray) (k:Nat):ByteArray:=if v=1 then zan s k else za0 s
theorem zac (v:Int) (n k:Nat) (hk:k≤8) (hn:n<18446744073709551616):(num v n k).size≤10:=by
 unfold num
 split
 ·rw [zad n k hk];omega
 ·exact za9 n hn
theorem zsh (k:Nat) (hk:k≤8):256 ^ k≤18446744073709551616:=zsB (Nat.pow_le_pow_right (by omega) hk) (by decide)
theorem zct (v:Int) (n k:Nat) (hk:k≤8) (hn:n<256 ^ k) (t:ByteArray):zaP v (num v n k++t) k=n∧zaM v (num v n k++t) k=t:=by
 unfold zaP zaM num
 split
 ·obtain ⟨h1,h2,_⟩:=zb7 n k hk t;exact ⟨by rw [h1,zs3 hn],h2⟩
 ·obtain ⟨h1,h2,_⟩:=zim n (zs8 hn (zsh k hk)) t;exact ⟨h1,h2⟩
theorem zgu (v:Int) (s:ByteArray) (k:Nat) (hk:k≤8):zaP v s k<18446744073709551616:=by
 unfold zaP
 split
 ·unfold zaZ
  split
  ·rw [zsK];exact zs8 (zbI (nums s) (zaE s) k) (zsh k hk)
  ·omega
 ·exact zms s
theorem zlk (v:Int) (s:ByteArray) (k:Nat):(zaM v s k).size≤s.size:=by
 unfold zaM
 split
 ·exact zak s k
 ·exact zbu s
def w64 (n:Nat):Int:=IntKind.i64.wrap (n:Int)
theorem zbJ (n:Nat) (h:n<9223372036854775808):w64 n=n:=by
 unfold w64;simp [IntKind.wrap,IntKind.bits,IntKind.signed];omega
theorem zhf (n:Nat):-9223372036854775808≤w64 n∧w64 n≤9223372036854775807:=by
 unfold w64;simp [IntKind.wrap,IntKind.bits,IntKind.signed];omega
def zbm (s:Su):ByteArray:=fxB s.v.toNat 1++num s.v s.sn.toNat 2++num s.v s.lg.toNat 2++num s.v s.ar.toNat 1++num s.v s.hf.toNat 1++num s.v s.gl.toNat 1++num s.v s.sp.toNat 1
def zid (s:Su):ByteArray:=if rgt s then zbm s else ⟨#[]⟩
def u1 (v:Int) (u:ByteArray):ByteArray:=zaM v u 2
def u2 (v:Int) (u:ByteArray):ByteArray:=zaM v (u1 v u) 2
def u3 (v:Int) (u:ByteArray):ByteArray:=zaM v (u2 v u) 1
def u4 (v:Int) (u:ByteArray):ByteArray:=zaM v (u3 v u) 1
def u5 (v:Int) (u:ByteArray):ByteArray:=zaM v (u4 v u) 1
def rv (b:ByteArray):Int:=(zaZ b 1:Nat)
def rdS (v:Int) (u:ByteArray):Su:=⟨v,w64 (zaP v u 2),w64 (zaP v (u1 v u) 2),w64 (zaP v (u2 v u) 1),w64 (zaP v (u3 v u) 1),w64 (zaP v (u4 v u) 1),w64 (zaP v (u5 v u) 1)⟩
def zrR (v:Int) (u:ByteArray):Su:=⟨v,(zaP v u 2 % 9999:Nat),(zaP v (u1 v u) 2 % 9999:Nat),(zaP v (u2 v u) 1 % 99:Nat),(zaP v (u3 v u) 1 % 99:Nat),(zaP v (u4 v u) 1 % 99:Nat),(zaP v (u5 v u) 1 % 99:Nat)⟩
def rs (b:ByteArray):Su:=rdS (rv b) (zan b 1)
def rs2 (b:ByteArray):Su:=zrR (rv b) (zan b 1)
def gO (b:ByteArray):Bool:=rgt (rs b)&&((zbm (rs b)).toList==b.toList)
def gO2 (b:ByteArray):Bool:=rgt (rs2 b)&&((zbm (rs2 b)).toList==b.toList)
def gS (b:ByteArray):Su:=if gO b then rs b else su0
theorem zhg (t:ByteArray):t++(⟨#[]⟩:ByteArray)=t:=by apply ByteArray.ext;simp
theorem zfb {s:Su} (h:rgt s=true):rs (zbm s)=s∧rs2 (zbm s)=s:=by
 obtain ⟨v,sn,lg,ar,hf,gl,sp⟩:=s;obtain ⟨h1,h2,h3,h4,h5,h6,h7,_⟩:=(zbi _).1 h;dsimp only at h1 h2 h3 h4 h5 h6 h7;obtain ⟨v,rfl⟩:=zsM (by omega:0≤v);obtain ⟨a,rfl⟩:=zsM (by omega:0≤sn);obtain ⟨b,rfl⟩:=zsM (by omega:0≤lg);obtain ⟨c,rfl⟩:=zsM (by omega:0≤ar);obtain ⟨d,rfl⟩:=zsM (by omega:0≤hf);obtain ⟨e,rfl⟩:=zsM (by omega:0≤gl);obtain ⟨f,rfl⟩:=zsM (by omega:0≤sp)
 have E:zbm ⟨v,a,b,c,d,e,f⟩=fxB v (1:Nat)++(num v a 2++(num v b 2++(num v c 1++(num v d 1++(num v e 1++(num v f 1++⟨#[]⟩)))))):=by
  unfold zbm;simp only [zsK,zaI,zhg];rfl
 obtain ⟨p1,p2,_⟩:=zb7 v 1 (by omega) (num v a 2++(num v b 2++(num v c 1++(num v d 1++(num v e 1++(num v f 1++⟨#[]⟩))))));rw [←E] at p1 p2;obtain ⟨q1,q2⟩:=zct v a 2 (by omega) (by omega) (num v b 2++(num v c 1++(num v d 1++(num v e 1++(num v f 1++⟨#[]⟩)))));obtain ⟨r1,r2⟩:=zct v b 2 (by omega) (by omega) (num v c 1++(num v d 1++(num v e 1++(num v f 1++⟨#[]⟩))));obtain ⟨s1,s2⟩:=zct v c 1 (by omega) (by omega) (num v d 1++(num v e 1++(num v f 1++⟨#[]⟩)));obtain ⟨t1,t2⟩:=zct v d 1 (by omega) (by omega) (num v e 1++(num v f 1++⟨#[]⟩));obtain ⟨w1,w2⟩:=zct v e 1 (by omega) (by omega) (num v f 1++⟨#[]⟩);obtain ⟨x1,x2⟩:=zct v f 1 (by omega) (by omega) ⟨#[]⟩
 have hv:rv (zbm ⟨v,a,b,c,d,e,f⟩)=v:=by
  unfold rv
  have:=p1
  rw [show ((1:Nat):Int)=1 from rfl] at this;rw [this,zs3 (by omega)]
 have hp2:zan (zbm ⟨v,a,b,c,d,e,f⟩) 1=num v a 2++(num v b 2++(num v c 1++(num v d 1++(num v e 1++(num v f 1++⟨#[]⟩))))):=p2;unfold rs rs2;rw [hv,hp2];unfold rdS zrR u5 u4 u3 u2 u1;rw [q2,r2,s2,t2,w2,q1,r1,s1,t1,w1,x1];rw [zbJ a (by omega),zbJ b (by omega),zbJ c (by omega),zbJ d (by omega),zbJ e (by omega),zbJ f (by omega)];rw [zs3 (by omega:a<9999),zs3 (by omega:b<9999),zs3 (by omega:c<99),zs3 (by omega:d<99),zs3 (by omega:e<99),zs3 (by omega:f<99)];exact ⟨rfl,rfl⟩
theorem zdG (b:ByteArray):gO b=true↔∃ s,rgt s=true∧b=zbm s:=by
 unfold gO;rw [zsR,zcL];constructor
 ·rintro ⟨h1,h2⟩;exact ⟨_,h1,h2.symm⟩
 ·rintro ⟨s,h1,rfl⟩;rw [(zfb h1).1];exact ⟨h1,rfl⟩
theorem zpN (b:ByteArray):gO2 b=true↔∃ s,rgt s=true∧b=zbm s:=by
 unfold gO2;rw [zsR,zcL];constructor
 ·rintro ⟨h1,h2⟩;exact ⟨_,h1,h2.symm⟩
 ·rintro ⟨s,h1,rfl⟩;rw [(zfb h1).2];exact ⟨h1,rfl⟩
theorem zll (b:ByteArray):gO2 b=gO b:=by
 rw [Bool.eq_iff_iff,zdG,zpN]
theorem zq5 {b:ByteArray} (h:gO b=true):rs2 b=rs b:=by
 obtain ⟨s,h1,rfl⟩:=(zdG b).1 h;rw [(zfb h1).1,(zfb h1).2]
theorem zo7 {s:Su} (h:rgt s=true):gO (zbm s)=true:=(zdG _).2 ⟨s,h,rfl⟩
theorem zo8 {s:Su} (h:rgt s=true):gS (zbm s)=s:=by unfold gS;rw [if_pos (zo7 h)];exact (zfb h).1
theorem zhh {s:Su} (h:rgt s=true):(zbm s).size≤61∧0<(zbm s).size:=by
 obtain ⟨h1,h2,h3,h4,h5,h6,h7,_⟩:=(zbi _).1 h;have e1:=zad s.v.toNat 1 (by omega);have e2:=zac s.v s.sn.toNat 2 (by omega) (by omega);have e3:=zac s.v s.lg.toNat 2 (by omega) (by omega);have e4:=zac s.v s.ar.toNat 1 (by omega) (by omega);have e5:=zac s.v s.hf.toNat 1 (by omega) (by omega);have e6:=zac s.v s.gl.toNat 1 (by omega) (by omega);have e7:=zac s.v s.sp.toNat 1 (by omega) (by omega);unfold zbm;have e1':(fxB s.v.toNat 1).size=1:=e1;simp only [zsH,e1'];omega
def sec (s:Su):Int:=if rgt s then 4+2*(s.sn+s.lg) else 0
def hO (v:Int) (h:Hd):Bool:=(decide (v=1)||decide (v=2))&&ins h.vo 0 7
theorem zdc (v:Int) (h:Hd):hO v h=true↔(v=1∨v=2)∧0≤h.vo∧h.vo≤7:=by
 unfold hO ins;simp only [zsR,ztu,decide_eq_true_eq]
def hB (v:Int) (h:Hd):ByteArray:=fxB (16+v).toNat 1++num v h.tm 8++num v h.vo.toNat 1++num v h.cm 8
def hS (v:Int) (h:Hd):ByteArray:=if hO v h then hB v h else ⟨#[]⟩
def hv (b:ByteArray):Int:=(zaZ b 1:Nat)-16
def k1 (v:Int) (u:ByteArray):ByteArray:=zaM v u 8
def k2 (v:Int) (u:ByteArray):ByteArray:=zaM v (k1 v u) 1
def rdH (v:Int) (u:ByteArray):Hd:=⟨zaP v u 8,w64 (zaP v (k1 v u) 1),zaP v (k2 v u) 8⟩
def zrS (v:Int) (u:ByteArray):Hd:=⟨zaP v u 8,(zaP v (k1 v u) 1 % 99:Nat),zaP v (k2 v u) 8⟩
def rh (b:ByteArray):Hd:=rdH (hv b) (zan b 1)
def rh2 (b:ByteArray):Hd:=zrS (hv b) (zan b 1)
structure Hd.Ok (h:Hd):Prop where
 t:h.tm<18446744073709551616
 c:h.cm<18446744073709551616
 v1:-9223372036854775808≤h.vo
 v2:h.vo≤9223372036854775807
theorem zpO (b:ByteArray):(rh b).Ok:=⟨zgu _ _ _ (by omega),zgu _ _ _ (by omega),(zhf _).1,(zhf _).2⟩
theorem zo9 (b:ByteArray):(rh2 b).Ok:=⟨zgu _ _ _ (by omega),zgu _ _ _ (by omega),by show _≤((_:Nat):Int);omega,by show ((_:Nat):Int)≤_;omega⟩
def jO (b:ByteArray):Bool:=hO (hv b) (rh b)&&((hB (hv b) (rh b)).toList==b.toList)
def jO2 (b:ByteArray):Bool:=hO (hv b) (rh2 b)&&((hB (hv b) (rh2 b)).toList==b.toList)
def jH (b:ByteArray):Hd:=if jO b then rh b else hd0
def jV (b:ByteArray):Int:=if jO b then hv b else 0
theorem zd6 {v:Int} {h:Hd} (hh:hO v h=true) (ho:h.Ok):hv (hB v h)=v∧rh (hB v h)=h∧rh2 (hB v h)=h:=by
 obtain ⟨tm,vo,cm⟩:=h;obtain ⟨h1,h2,h3⟩:=(zdc _ _).1 hh;obtain ⟨ht,hc,_,_⟩:=ho;dsimp only at h2 h3 ht hc;obtain ⟨x,rfl⟩:=zsM h2;obtain ⟨y,hy⟩:=zsM (by omega:0≤16+v)
 have E:hB v ⟨tm,x,cm⟩=fxB y (1:Nat)++(num v tm 8++(num v x 1++(num v cm 8++⟨#[]⟩))):=by
  unfold hB;rw [hy];simp only [zsK,zaI,zhg];rfl
 obtain ⟨p1,p2,_⟩:=zb7 y 1 (by omega) (num v tm 8++(num v x 1++(num v cm 8++⟨#[]⟩)));rw [←E] at p1 p2;obtain ⟨q1,q2⟩:=zct v tm 8 (by omega) (by omega) (num v x 1++(num v cm 8++⟨#[]⟩));obtain ⟨r1,r2⟩:=zct v x 1 (by omega) (by omega) (num v cm 8++⟨#[]⟩);obtain ⟨s1,s2⟩:=zct v cm 8 (by omega) (by omega) ⟨#[]⟩
 have hvv:hv (hB v ⟨tm,x,cm⟩)=v:=by
  unfold hv
  have:=p1
  rw [show ((1:Nat):Int)=1 from rfl] at this;rw [this,zs3 (by omega)];omega
 have hp2:zan (hB v ⟨tm,x,cm⟩) 1=num v tm 8++(num v x 1++(num v cm 8++⟨#[]⟩)):=p2;refine ⟨hvv,?_⟩;unfold rh rh2;rw [hvv,hp2];unfold rdH zrS k2 k1;rw [q2,r2,q1,r1,s1];rw [zbJ x (by omega),zs3 (by omega:x<99)];exact ⟨rfl,rfl⟩
theorem zlm (b:ByteArray):jO b=true↔∃ v h,hO v h=true∧Hd.Ok h∧b=hB v h:=by
 unfold jO;rw [zsR,zcL];constructor
 ·rintro ⟨h1,h2⟩;exact ⟨_,_,h1,zpO b,h2.symm⟩
 ·rintro ⟨v,h,h1,h2,rfl⟩;obtain ⟨e1,e2,_⟩:=zd6 h1 h2;rw [e1,e2];exact ⟨h1,rfl⟩
theorem zpP (b:ByteArray):jO2 b=true↔∃ v h,hO v h=true∧Hd.Ok h∧b=hB v h:=by
 unfold jO2;rw [zsR,zcL];constructor
 ·rintro ⟨h1,h2⟩;exact ⟨_,_,h1,zo9 b,h2.symm⟩
 ·rintro ⟨v,h,h1,h2,rfl⟩;obtain ⟨e1,_,e2⟩:=zd6 h1 h2;rw [e1,e2];exact ⟨h1,rfl⟩
theorem zq6 (b:ByteArray):jO2 b=jO b:=by
 rw [Bool.eq_iff_iff,zlm,zpP]
theorem zq7 {b:ByteArray} (h:jO b=true):rh2 b=rh b:=by
 obtain ⟨v,x,h1,h2,rfl⟩:=(zlm b).1 h;obtain ⟨_,e2,e3⟩:=zd6 h1 h2;rw [e2,e3]
theorem zio {v:Int} {h:Hd} (h1:hO v h=true) (h2:h.Ok):jO (hB v h)=true:=(zlm _).2 ⟨v,h,h1,h2,rfl⟩
theorem zpQ {v:Int} {h:Hd} (h1:hO v h=true) (h2:h.Ok):jH (hB v h)=h∧jV (hB v h)=v:=by
 obtain ⟨e1,e2,_⟩:=zd6 h1 h2;unfold jH jV;rw [if_pos (zio h1 h2),if_pos (zio h1 h2)];exact ⟨e2,e1⟩
theorem zgv {v:Int} {h:Hd} (hh:hO v h=true) (ho:h.Ok):(hB v h).size≤31∧0<(hB v h).size:=by
 obtain ⟨h1,h2,h3⟩:=(zdc _ _).1 hh;obtain ⟨ht,hc,_,_⟩:=ho;have e1':(fxB (16+v).toNat 1).size=1:=zad (16+v).toNat 1 (by omega);have e2:=zac v h.tm 8 (by omega) ht;have e3:=zac v h.vo.toNat 1 (by omega) (by omega);have e4:=zac v h.cm 8 (by omega) hc;unfold hB;simp only [zsH,e1'];omega
end Sl
end Go.Proofs.YtidndekacnmihaaGreat.J
namespace Go.Proofs.YtidndekacnmihaaGreat.J
open Go.RowKit
theorem zfk:(Tryz.prog.info? 151).map (·.size)=some 2:=by kernel_rfl
theorem wlies:liesAt Tryz.prog Tryz.prog.depth 230 (2 / Tryz.prog.cellsOf 230) 0 151 1=true:=by kernel_rfl
theorem ziy:Tryz.prog.cellsOf 5=1:=by kernel_rfl
theorem zdl (b:Nat) (w:World) (h0:w.cell? ⟨b,0,none⟩=some (.pointer (some ⟨b,0,none⟩))) :
 Calls Tryz.prog 149 #[.pointer (some ⟨b,0,none⟩)] w fun e w'=>e=.returned (.tuple #[])∧w'=w:=by
 obtain ⟨j,hj,_⟩:=Option.map_eq_some_iff.1 zfk;go_enter Tryz.func149,Tryz.ntmps149;go_wp2;rw [Lib.run_neq_ptr_same w _ Tryz.underlying149 hj];go_wp2;go_end0;exact ⟨rfl,rfl⟩
theorem zcP (b:Nat) (w:World) (h0:w.cell? ⟨b,0,none⟩=some (.pointer none)) (hsh:w.shape? b=some (230,2)) (hfz:w.frozen? ⟨b,0,none⟩=false) :
 Calls Tryz.prog 149 #[.pointer (some ⟨b,0,none⟩)] w fun e w'=>e=.returned (.tuple #[])∧w'=w.setCell ⟨b,0,none⟩ (.pointer (some ⟨b,0,none⟩)):=by
 obtain ⟨j,hj,hjs⟩:=Option.map_eq_some_iff.1 zfk;go_enter Tryz.func149,Tryz.ntmps149;go_wp2;rw [Lib.run_to_unsafe w ⟨b,0,none⟩ Tryz.underlying149 Tryz.underlying265 hj (by rw [hjs];decide) hsh (Nat.zero_lt_succ 1)];simp only [Result.andThen];rw [Oper.upon_value];go_wp2;rw [run_callFunc_extern Tryz.func199 (by kernel_rfl) (by kernel_rfl) (by kernel_rfl) (e:=Extern.AbiNoEscape.same) (by kernel_rfl)];rw [Lib.run_noEscape];simp only [Result.andThen];rw [Oper.upon_value];go_wp2;rw [Lib.run_from_unsafe w ⟨b,0,none⟩ Tryz.underlying265 Tryz.underlying149 hj hsh wlies];simp only [Result.andThen];rw [Oper.upon_value];go_wp2;go_end0;exact ⟨rfl,rfl⟩
theorem wcheck (B b:Nat) (bs:List Value) (w:World) (h:Lib.IsBuilder 230 5 B b bs w) :
 Calls Tryz.prog 149 #[.pointer (some ⟨b,0,none⟩)] w fun e w'=>e=.returned (.tuple #[])∧Lib.BuilderAt 230 5 B b (.pointer (some ⟨b,0,none⟩)) bs w'∧Below B w w'∧Lib.OthersKept 5 (some b) w w':=by
 rcases h with h|h
 ·refine (zcP b w h.cell0 h.shape h.frozen0).mono ?_;rintro e w' ⟨rfl,rfl⟩;exact ⟨rfl,h.used _,(Below.refl B w).setCell (p:=⟨b,0,none⟩) h.1 _,(Lib.OthersKept.refl _ _ w).setCell ⟨b,0,none⟩ rfl _⟩
 ·refine (zdl b w h.cell0).mono ?_;rintro e w' ⟨rfl,rfl⟩;exact ⟨rfl,h,Below.refl B _,Lib.OthersKept.refl _ _ _⟩
def Wt (B b:Nat) (x:ByteArray) (w:World):Prop:=Lib.IsBuilder 230 5 B b (Lib.strCells x) w
theorem zbX (x s:ByteArray):Lib.strCells x++Lib.strCells s=Lib.strCells (x++s):=by
 unfold Lib.strCells
 simp
theorem wwrite (B b:Nat) (x s:ByteArray) (w:World) (h:Wt B b x w) (hlen:x.size+s.size≤140737488355328) (hBw:B≤w.heap.size) :
 Calls Tryz.prog 182 #[.pointer (some ⟨b,0,none⟩),.string s] w fun e w'=>e=.returned (.tuple #[.int .i64 s.size,.nilIface])∧Wt B b (x++s) w'∧Below B w w'∧Lib.OthersKept 5 (some b) w w':=by
 obtain ⟨i0,hi,hz0,hz1,hz2⟩:=info_parts Tryz.info5;have hck:=zh (wcheck B b _ w h);clear h;have hlx:=ztx x;go_enter Tryz.func182,Tryz.ntmps182
 go_wp2_with (go_at_call 149;refine hck.out.mono ?_)
 rintro e w1 ⟨rfl,h1,hb1,ho1⟩;obtain ⟨hB,v,hbk,hown,hne⟩:=h1;have c0:w1.cell? ⟨b,0,none⟩=some (.pointer (some ⟨b,0,none⟩)):=by rw [zs9 hbk];rfl
 have c1:w1.cell? ⟨b,1,none⟩=some v:=by rw [zs9 hbk];rfl
 go_wp2_with (at_builtin;refine Lib.wpList_append_own_string _ rfl _ _ 78 9 rfl B 5 i0 Tryz.underlying78 Tryz.underlying9 hi hz0 hz1 hz2 _ _ _ rfl hown s rfl ?c3 ?c4 ?c5 ?_)
 case c3=>unfold maxLen;omega
 case c4=>omega
 case c5=>have:=hb1.size;omega
 intro v' w2 hown' hgrow _;have hlt:b<w1.heap.size:=(zgx hbk)
 have hb2:w2.heap[b]?=some (.cells #[.pointer (some ⟨b,0,none⟩),v] 230 (0,0)):=by
  rw [hgrow.block b hlt (fun e=>hne e.symm)];exact hbk
 have d0:w2.cell? ⟨b,0,none⟩=some (.pointer (some ⟨b,0,none⟩)):=by rw [zs9 hb2];rfl
 have d1:w2.cell? ⟨b,1,none⟩=some v:=by rw [zs9 hb2];rfl
 have f1:w2.frozen? ⟨b,1,none⟩=false:=zsV hb2 1
 obtain ⟨ao,n',cap,rfl⟩:∃ ao n' cap,v'=.slice ao n' cap:=by
  rcases hown'.2 with ⟨hv,_⟩|⟨g,cap,cur,hv,_⟩
  ·exact ⟨_,_,_,hv⟩
  ·exact ⟨_,_,_,hv⟩
 go_wp2;go_ret2;refine ⟨rfl,?_,?_,?_⟩
 ·refine .inr ?_;rw [←zbX];exact Lib.BuilderAt.put (T:=230) (e:=5) hB hb2 (bs':=Lib.strCells x++Lib.strCells s) (by simpa [ztx] using hown') (by decide)
 ·exact (hb1.grown hgrow (by have:=hb1.size;omega) (fun k hk=>(hown.lt k hk).1)).setCell (p:=⟨b,1,none⟩) hB _
 ·refine (ho1.trans ?_:Lib.OthersKept 5 (some b) w w2).setCell ⟨b,1,none⟩ rfl _;refine (Lib.OthersKept.refl 5 (some b) w1).grown hgrow fun g hg=>?_;rcases hown.2 with ⟨hv,_⟩|⟨g',cap',cur,hv,_,hg',_⟩
  ·rw [hv] at hg;simp [Value.ownBlock] at hg
  ·rw [hv] at hg;simp only [Value.ownBlock,Option.some.injEq] at hg;subst hg;exact ⟨cur,_,hg'⟩
end Go.Proofs.YtidndekacnmihaaGreat.J
namespace Go.Proofs.YtidndekacnmihaaGreat.J
open Go.RowKit
theorem zb3 (x:ByteArray):Lib.strCells x=Lib.byteCells x.data.toList:=by
 unfold Lib.strCells Lib.byteCells
 simp
theorem wstring (B b:Nat) (x:ByteArray) (w:World) (h:Wt B b x w) (hx:0<x.size) :
 Calls Tryz.prog 94 #[.pointer (some ⟨b,0,none⟩)] w fun e w'=>e=.returned (.string x)∧Below B w w':=by
 obtain ⟨p,hB,v,hbk,hown,hne⟩:∃ p,Lib.BuilderAt 230 5 B b p (Lib.byteCells x.data.toList) w:=by
  unfold Wt at h;rw [zb3] at h;rcases h with h|h
  ·exact ⟨_,h⟩
  ·exact ⟨_,h⟩
 obtain ⟨l,hl⟩:∃ l,l=x.data.toList:=⟨_,rfl⟩;have hxe:x=⟨l.toArray⟩:=by rw [hl]
 have hl0:l.length≠0:=by rw [hl];simp;intro e;rw [e] at hx;exact absurd hx (by decide)
 have hne0:l≠[]:=fun e=>hl0 (by rw [e];rfl);rw [←hl] at hown;rw [hxe];clear hxe hl hx h;rw [zs1] at hown
 obtain ⟨g,cap,cur,rfl,hbg,hg,hnc,hcm,hcs,htake⟩:∃ g cap cur,v=.slice (some ⟨g,0,none⟩) l.length cap∧B≤g∧w.heap[g]?=some (.cells cur 5 (0,0))∧l.length≤cap∧cap≤maxLen∧cur.size=cap*1∧cur.toList.take (l.length*1)=Lib.byteCells l:=by
  rcases hown.2 with ⟨_,hz⟩|⟨g,cap,cur,hv,r⟩
  ·exact absurd hz hl0
  ·exact ⟨g,cap,cur,hv,r⟩
 have c1:w.drew.cell? ⟨b,1,none⟩=some (.slice (some ⟨g,0,none⟩) l.length cap):=by
  have:w.drew.heap[b]?=some (.cells #[p,.slice (some ⟨g,0,none⟩) l.length cap] 230 (0,0)):=hbk
  rw [zs9 this];rfl
 have hSD:(Builtin.unsafeSliceData_ #[78] 215 #[.slice (some ⟨g,0,none⟩) l.length cap]).run Tryz.prog w.drew=.ok (.pointer (some ⟨g,0,none⟩)) w.drew :=
  Lib.run_unsafeSliceData_row _ _ _ _ _ _ (by omega)
 have hUS:(Builtin.unsafeString_ #[215,3] 9 #[.pointer (some ⟨g,0,none⟩),.int .i64 l.length]).run Tryz.prog w.drew=.ok (.string ⟨l.toArray⟩) (w.drew.freeze ⟨g,0,none⟩ l.length):=by
  refine Lib.run_unsafeString_row w.drew 215 3 9 5 Tryz.underlying215 ziy g cur.size (by have hg':w.drew.heap[g]?=some (.cells cur 5 (0,0)):=hg;simp [World.shape?,hg']) l hne0 (by omega) (by unfold maxLen at hcm;omega) ?_;intro j x hx
  have:=hown.cells (g:=g) rfl j (.int .u8 x.toNat) (by simp [Lib.byteCells,hx])
  exact this
 have mixed:Tryz.prog.follows Departure.mixedOrders=true:=by kernel_rfl
 go_enter Tryz.func94,Tryz.ntmps94;go_wp2
 go_region_o
 all_goals (go_wp2;go_ret;exact ⟨rfl,Lib.below_freeze (Below.drew (Below.refl B w)) (p:=⟨g,0,none⟩) hbg _⟩)
structure Ws (w0:World) (B b:Nat) (x:ByteArray) (w:World):Prop where
 t:Wt B b x w
 be:Below B w0 w
 ok:Lib.OthersKept 5 (some b) w0 w
 sz:B≤w.heap.size
 sw:w0.heap.size≤w.heap.size
theorem Wt.below {B b:Nat} {x:ByteArray} {w w1:World} (h:Wt B b x w) (hb:Below w.heap.size w w1):Wt B b x w1:=by
 have key:∀ p,Lib.BuilderAt 230 5 B b p (Lib.strCells x) w→Lib.BuilderAt 230 5 B b p (Lib.strCells x) w1:=by
  rintro p ⟨hB,v,hbk,hown,hne⟩;refine ⟨hB,v,(hb.block b (zgx hbk)).trans hbk,?_,hne⟩
  exact hown.kept (row:=none) ⟨hb.os,hb.tape,hb.output,hb.size,fun k hk _=>hb.block k hk⟩ (by
   cases hv:v.ownBlock with
   | none=>exact .inl rfl
   | some k=>exact .inr (by simp))
 rcases h with h|h
 ·exact .inl (key _ h)
 ·exact .inr (key _ h)
theorem OthersKept.of_below {w w1:World} {b:Option Nat} (hb:Below w.heap.size w w1):Lib.OthersKept 5 b w w1:=fun i o hi h1 h2=>(hb.block i (zgx hi)).trans hi
theorem Ws.below {w0:World} {B b:Nat} {x:ByteArray} {w w1:World} (h:Ws w0 B b x w) (hb:Below w.heap.size w w1):Ws w0 B b x w1 :=
 ⟨h.t.below hb,h.be.trans (hb.mono h.sz),h.ok.trans (OthersKept.of_below hb),zsB h.sz hb.size,zsB h.sw hb.size⟩
theorem Ws.drew {w0:World} {B b:Nat} {x:ByteArray} {w:World} (h:Ws w0 B b x w):Ws w0 B b x w.drew:=⟨h.t,h.be.drew,h.ok,h.sz,h.sw⟩
theorem Ws.start {B b:Nat} {x:ByteArray} {w:World} (h:Wt B b x w) (hB:B≤w.heap.size):Ws w B b x w:=⟨h,Below.refl _ _,Lib.OthersKept.refl _ _ _,hB,zsy _⟩
theorem zaX (B b n:Nat) (k:Nat) (x:ByteArray) (w:World) (h:Wt B b x w) (hlen:x.size≤140737488000000) (hB:B≤w.heap.size) (hk:k≤8) :
 Calls Tryz.prog 166 #[.pointer (some ⟨b,0,none⟩),.int .u64 n,.int .i64 k] w fun e w'=>e=.returned (.tuple #[])∧Ws w B b (x++Vi.fxB n k) w':=by
 have hfs:(Vi.fxB n k).size≤8:=by rw [Vi.zad n k hk];exact hk
 obtain ⟨s,hs⟩:∃ s,s=Vi.fxB n k:=⟨_,rfl⟩;have K1:Hid (∀ W,Ws w B b x W→Calls Tryz.prog 212 #[.int .u64 n,.int .i64 k] W fun e w'=>e=.returned (.string s)∧Ws w B b x w'):=fun W hW=>(zbl n k W).mono fun e w' ⟨h1,h2⟩=>⟨by rw [h1,hs],hW.below h2⟩;have K2:Hid (∀ W,Ws w B b x W→Calls Tryz.prog 182 #[.pointer (some ⟨b,0,none⟩),.string s] W fun e w'=>e=.returned (.tuple #[.int .i64 s.size,.nilIface])∧Ws w B b (x++s) w'):=fun W hW=>(wwrite B b x s W hW.t (by rw [hs];omega) hW.sz).mono fun e w' ⟨h1,h2,h3,h4⟩=>⟨h1,h2,hW.be.trans h3,hW.ok.trans h4,zsB hW.sz h3.size,zsB hW.sw h3.size⟩;have S0:Ws w B b x w:=Ws.start h hB;have S1:=S0.drew;rw [←hs];clear h hlen hB hk hfs hs;go_enter Tryz.func166,Tryz.ntmps166
 go_region_held3 (fun _=>True) (trivial) (first
  | (go_at_call 212;(with_reducible refine (K1.out _ (by assumption)).mono ?_);rintro r w6 ⟨rfl,s5⟩)
  | (go_at_call 182;(with_reducible refine (K2.out _ (by assumption)).mono ?_);rintro r w7 ⟨rfl,s6⟩))
 all_goals
  go_wp2;go_end0;exact ⟨rfl,s6⟩
end Go.Proofs.YtidndekacnmihaaGreat.J
namespace Go.Proofs.YtidndekacnmihaaGreat.J
open Go.RowKit Vi Sl
theorem zaK (n lo hi:Int) (w:World):Calls Tryz.prog 156 #[.int .i64 n,.int .i64 lo,.int .i64 hi] w fun e w'=>e=.returned (.bool (ins n lo hi))∧w'=w:=by
 unfold ins
 by_cases h1:lo≤n
 ·have d1:decide (lo≤n)=true:=zsD h1;rw [d1,zsY]
  by_cases h2:n≤hi
  ·have d2:decide (n≤hi)=true:=zsD h2;rw [d2];go_enter Tryz.func156,Tryz.ntmps156;go_wp2;go_ret;exact ⟨rfl,rfl⟩
  ·have d2:decide (n≤hi)=false:=zsC h2;rw [d2];go_enter Tryz.func156,Tryz.ntmps156;go_wp2;go_ret;exact ⟨rfl,rfl⟩
 ·have d1:decide (lo≤n)=false:=zsC h1;rw [d1,ztd];go_enter Tryz.func156,Tryz.ntmps156;go_wp2;go_ret;exact ⟨rfl,rfl⟩
def sbx (w:World) (s:Su):World:=w.alloc (.cells s.c 65)
theorem zcd (w:World) (s:Su):(sbx w s).heap[w.heap.size]?=some (.cells s.c 65 (0,0)):=zsz w _
theorem zce (w:World) (s:Su):Below w.heap.size w (sbx w s):=zba
theorem zat {w:World} {g:Nat} {s:Su} (h:w.heap[g]?=some (.cells s.c 65 (0,0))) :
 w.cell? ⟨g,0,none⟩=some (.int .i64 s.v)∧w.cell? ⟨g,1,none⟩=some (.int .i64 s.sn)∧w.cell? ⟨g,2,none⟩=some (.int .i64 s.lg)∧w.cell? ⟨g,3,none⟩=some (.int .i64 s.ar)∧w.cell? ⟨g,4,none⟩=some (.int .i64 s.hf)∧w.cell? ⟨g,5,none⟩=some (.int .i64 s.gl)∧w.cell? ⟨g,6,none⟩=some (.int .i64 s.sp) :=
 ⟨zcr w g 0 _ 65 (0,0) h,zcr w g 1 _ 65 (0,0) h,zcr w g 2 _ 65 (0,0) h,zcr w g 3 _ 65 (0,0) h,zcr w g 4 _ 65 (0,0) h,zcr w g 5 _ 65 (0,0) h,zcr w g 6 _ 65 (0,0) h⟩
theorem zbK (s:Su) (w:World):Calls Tryz.prog 104 #[s.val] w fun e w'=>e=.returned (.bool (rgt s))∧Below w.heap.size w w':=by
 obtain ⟨W,hW⟩:∃ W,W=sbx w s:=⟨_,rfl⟩;obtain ⟨c0,c1,c2,c3,c4,c5,c6⟩:=zat (zcd w s);have hb:=zce w s;rw [←hW] at c0 c1 c2 c3 c4 c5 c6 hb;have K0:=fun (W:World)=>zaK s.v 1 2 W;obtain ⟨b0,hb0⟩:∃ b,b=ins s.v 1 2:=⟨_,rfl⟩;rw [←hb0] at K0;have HK0:=zh K0;have K1:=fun (W:World)=>zaK s.sn 1 1000 W;obtain ⟨b1,hb1⟩:∃ b,b=ins s.sn 1 1000:=⟨_,rfl⟩;rw [←hb1] at K1;have HK1:=zh K1;have K2:=fun (W:World)=>zaK s.lg 1 1000 W;obtain ⟨b2,hb2⟩:∃ b,b=ins s.lg 1 1000:=⟨_,rfl⟩;rw [←hb2] at K2;have HK2:=zh K2;have K3:=fun (W:World)=>zaK s.ar 0 1 W;obtain ⟨b3,hb3⟩:∃ b,b=ins s.ar 0 1:=⟨_,rfl⟩;rw [←hb3] at K3;have HK3:=zh K3;have K4:=fun (W:World)=>zaK s.hf 0 1 W;obtain ⟨b4,hb4⟩:∃ b,b=ins s.hf 0 1:=⟨_,rfl⟩;rw [←hb4] at K4;have HK4:=zh K4;have K5:=fun (W:World)=>zaK s.gl 0 2 W;obtain ⟨b5,hb5⟩:∃ b,b=ins s.gl 0 2:=⟨_,rfl⟩;rw [←hb5] at K5;have HK5:=zh K5;have K6:=fun (W:World)=>zaK s.sp 0 9 W;obtain ⟨b6,hb6⟩:∃ b,b=ins s.sp 0 9:=⟨_,rfl⟩;rw [←hb6] at K6;have HK6:=zh K6;have HR:Hid (rgt s=(b0&&(b1&&(b2&&(b3&&(b4&&(b5&&(b6&&(decide (s.gl≠0)||decide (s.sp=0)))))))))):=by show _=_;rw [hb0,hb1,hb2,hb3,hb4,hb5,hb6];rfl
 obtain ⟨r,hr⟩:∃ r,r=rgt s:=⟨_,rfl⟩;rw [←hr] at HR ⊢;have HW:=zh hW;have HB:=zh hb;clear hr hb hW K0 K1 K2 K3 K4 K5 K6 hb0 hb1 hb2 hb3 hb4 hb5 hb6;unfold sbx Su.val Su.c at *;go_enter Tryz.func104,Tryz.ntmps104
 go_wp2_with fail
 rw [←HW.out];refine (HK0.out _).mono ?_;rintro e w1 ⟨rfl,rfl⟩
 cases b0 with
 | false =>
   obtain rfl:r=false:=HR.out;go_wp2;go_ret;exact ⟨rfl,HB.out⟩
 | true =>
   go_wp2_with fail
   refine (HK1.out _).mono ?_;rintro e w1 ⟨rfl,rfl⟩
   cases b1 with
   | false =>
     obtain rfl:r=false:=HR.out;go_wp2;go_ret;exact ⟨rfl,HB.out⟩
   | true =>
     go_wp2_with fail
     refine (HK2.out _).mono ?_;rintro e w1 ⟨rfl,rfl⟩
     cases b2 with
     | false =>
       obtain rfl:r=false:=HR.out;go_wp2;go_ret;exact ⟨rfl,HB.out⟩
     | true =>
       go_wp2_with fail
       refine (HK3.out _).mono ?_;rintro e w1 ⟨rfl,rfl⟩
       cases b3 with
       | false =>
         obtain rfl:r=false:=HR.out;go_wp2;go_ret;exact ⟨rfl,HB.out⟩
       | true =>
         go_wp2_with fail
         refine (HK4.out _).mono ?_;rintro e w1 ⟨rfl,rfl⟩
         cases b4 with
         | false =>
           obtain rfl:r=false:=HR.out;go_wp2;go_ret;exact ⟨rfl,HB.out⟩
         | true =>
           go_wp2_with fail
           refine (HK5.out _).mono ?_;rintro e w1 ⟨rfl,rfl⟩
           cases b5 with
           | false =>
             obtain rfl:r=false:=HR.out;go_wp2;go_ret;exact ⟨rfl,HB.out⟩
           | true =>
             go_wp2_with fail
             refine (HK6.out _).mono ?_;rintro e w1 ⟨rfl,rfl⟩
             cases b6 with
             | false =>
               obtain rfl:r=false:=HR.out;go_wp2;go_ret;exact ⟨rfl,HB.out⟩
             | true =>
               by_cases h:s.gl=0
               ·have e1:(s.gl != 0)=false:=by simpa using h
                by_cases h2:s.sp=0
                ·obtain rfl:r=true:=by have:=HR.out;rw [zsD h2,ztg] at this;exact this
                 have e2:(s.sp==0)=true:=by simpa using h2
                 go_wp2;go_ret;exact ⟨rfl,HB.out⟩
                ·obtain rfl:r=false:=by have:=HR.out;rw [zsC h2,zsC (by simpa using h)] at this;exact this
                 have e2:(s.sp==0)=false:=by simpa using h2
                 go_wp2;go_ret;exact ⟨rfl,HB.out⟩
               ·have e1:(s.gl != 0)=true:=by simpa using h
                obtain rfl:r=true:=by have:=HR.out;rw [zsD (by simpa using h)] at this;exact this
                go_wp2;go_ret;exact ⟨rfl,HB.out⟩
theorem zeC (w:World) :
 Calls Tryz.prog 165 #[] w fun r w'=>r=.returned (.map (some w.heap.size))∧w'.heap[w.heap.size]?=some (.map (two (fv 166) (fv 210)) 2)∧Below w.heap.size w w'∧w'.heap.size=w.heap.size+1:=by
 have hmm:=@run_makeMap Tryz.prog;obtain ⟨w1,e1,h1,b1,_,s1⟩:=zaL (T:=227) 1 (fv 166) Tryz.underlying227 (zsz w (.map #[] 0)) rfl zba (zsy _);obtain ⟨w2,e2,h2,b2,_,s2⟩:=zaL (T:=227) 2 (fv 210) Tryz.underlying227 h1 rfl b1 (zsy _);have H2:Hid (w2.heap[w.heap.size]?=some (.map (two (fv 166) (fv 210)) 2)):=h2;have B2:=zh b2;have S2:Hid (w2.heap.size=w.heap.size+1):=by show _=_;rw [s2,s1];simp
 clear h1 h2 b1 b2 s1 s2;go_enter Tryz.func165,Tryz.ntmps165;go_wp2;go_ret;exact ⟨rfl,H2.out,B2.out,S2.out⟩
theorem zbj (w:World) :
 Calls Tryz.prog 263 #[] w fun r w'=>r=.returned (.map (some w.heap.size))∧w'.heap[w.heap.size]?=some (.map (two (fv 262) (fv 290)) 2)∧Below w.heap.size w w'∧w'.heap.size=w.heap.size+1:=by
 have hmm:=@run_makeMap Tryz.prog;obtain ⟨w1,e1,h1,b1,_,s1⟩:=zaL (T:=323) 1 (fv 262) Tryz.underlying323 (zsz w (.map #[] 0)) rfl zba (zsy _);obtain ⟨w2,e2,h2,b2,_,s2⟩:=zaL (T:=323) 2 (fv 290) Tryz.underlying323 h1 rfl b1 (zsy _);have H2:Hid (w2.heap[w.heap.size]?=some (.map (two (fv 262) (fv 290)) 2)):=h2;have B2:=zh b2;have S2:Hid (w2.heap.size=w.heap.size+1):=by show _=_;rw [s2,s1];simp
 clear h1 h2 b1 b2 s1 s2;go_enter Tryz.func263,Tryz.ntmps263;go_wp2;go_ret;exact ⟨rfl,H2.out,B2.out,S2.out⟩
theorem zeE (B b n:Nat) (k:Int) (x:ByteArray) (w:World) (h:Wt B b x w) (hlen:x.size≤140737488000000) (hB:B≤w.heap.size) (hn:n<18446744073709551616) :
 Calls Tryz.prog 210 #[.pointer (some ⟨b,0,none⟩),.int .u64 n,.int .i64 k] w fun e w'=>e=.returned (.tuple #[])∧Ws w B b (x++Vi.zaH n) w':=by
 have hfs:=za9 n hn;obtain ⟨s,hs⟩:∃ s,s=Vi.zaH n:=⟨_,rfl⟩;have K1:Hid (∀ W,Ws w B b x W→Calls Tryz.prog 211 #[.int .u64 n] W fun e w'=>e=.returned (.string s)∧Ws w B b x w'):=fun W hW=>(zcR n W hn).mono fun e w' ⟨h1,h2⟩=>⟨by rw [h1,hs],hW.below h2⟩;have K2:Hid (∀ W,Ws w B b x W→Calls Tryz.prog 182 #[.pointer (some ⟨b,0,none⟩),.string s] W fun e w'=>e=.returned (.tuple #[.int .i64 s.size,.nilIface])∧Ws w B b (x++s) w'):=fun W hW=>(wwrite B b x s W hW.t (by rw [hs];omega) hW.sz).mono fun e w' ⟨h1,h2,h3,h4⟩=>⟨h1,h2,hW.be.trans h3,hW.ok.trans h4,zsB hW.sz h3.size,zsB hW.sw h3.size⟩;have S0:Ws w B b x w:=Ws.start h hB;have S1:=S0.drew;rw [←hs];clear h hlen hB hn hfs hs;go_enter Tryz.func210,Tryz.ntmps210
 go_region_held3 (fun _=>True) (trivial) (first
  | (go_at_call 211;(with_reducible refine (K1.out _ (by assumption)).mono ?_);rintro r w6 ⟨rfl,s5⟩)
  | (go_at_call 182;(with_reducible refine (K2.out _ (by assumption)).mono ?_);rintro r w7 ⟨rfl,s6⟩))
 all_goals
  go_wp2;go_end0;exact ⟨rfl,s6⟩
theorem zbL (s:Su) (w:World):Calls Tryz.prog 38 #[s.val] w fun e w'=>e=.returned (.int .i64 (sec s))∧Below w.heap.size w w':=by
 obtain ⟨W,hW⟩:∃ W,W=sbx w s:=⟨_,rfl⟩;obtain ⟨c0,c1,c2,c3,c4,c5,c6⟩:=zat (zcd w s);have hc:=zcd w s;have hb:=zce w s;have hsz:(sbx w s).heap.size=w.heap.size+1:=by simp [sbx]
 rw [←hW] at c0 c1 c2 c3 c4 c5 c6 hb hc hsz;have HK:=zh (fun (W:World)=>zbK s W);have HI:=zh (zbi s);have HS:Hid (sec s=if rgt s then 4+2*(s.sn+s.lg) else 0):=rfl;obtain ⟨r,hr⟩:∃ r,r=rgt s:=⟨_,rfl⟩;rw [←hr] at HK HS HI;have HC:=zh hc;have HZ:=zh hsz;have HW:=zh hW;have HB:=zh hb;clear hr hb hW c0 c1 c2 c3 c4 c5 c6 hc hsz;unfold sbx Su.val Su.c at *;go_enter Tryz.func38,Tryz.ntmps38
 go_wp2_with fail
 rw [←HW.out];refine (HK.out _).mono ?_;rintro e w1 ⟨rfl,b1⟩;have HB1:=zh (HB.out.trans (b1.mono HB.out.size))
 cases r with
 | false =>
   have hs:Hid (sec s=0):=HS.out;go_wp2;go_ret;exact ⟨by rw [hs.out];rfl,HB1.out⟩
 | true =>
   have hs:Hid (sec s=4+2*(s.sn+s.lg)):=HS.out;obtain ⟨_,h2,h3,_⟩:=HI.out.1 rfl;have hc1:w1.heap[w.heap.size]?=some (.cells s.c 65 (0,0)):=(b1.block _ (by have:=HZ.out;omega)).trans HC.out;obtain ⟨c0,c1,c2,c3,c4,c5,c6⟩:=zat hc1;clear HC HZ HW HB b1 hc1;go_wp2;go_ret;exact ⟨by rw [hs.out];rfl,HB1.out⟩
end Go.Proofs.YtidndekacnmihaaGreat.J
