/- Parts of a proof. -/
import Derived.Test.YtidndekacnmihaaGreatC02
import Derived.Test.YtidndekacnmihaaGreatC06
set_option linter.all false
set_option maxHeartbeats 8000000
set_option maxRecDepth 100000
namespace Go.Proofs.YtidndekacnmihaaGreat
open Bool renaming false→Y
open Ending renaming returned→N
open Go renaming World→H,Value→L,Calls→M
open Go.RowKit renaming Below→I
open Go.RowKit.Below renaming refl→qe
open IntKind renaming i64→V
open Lib renaming strCells→Q,byteCells→Z,OthersKept→qd
open Obj renaming cells→G
open Option renaming some→y,none→C
open Tryz renaming prog→J
open Value renaming pointer→D,agg→O,string→U,slice→qc,ownBlock→qf
open Tryz
variable {w w':H} {cs:Array L} {fa fn fp fr kP kT:FuncId} {v1 v2:L}
open Go.RowKit
theorem zjQ (s:ByteArray) (w:H) (hs:s.size≤140737488355328) :
 M J 335 #[U s] w fun e w'=>e=N (U (Vi.zaE s.size++s))∧I w.heap.size w w':=by
 have hp:=zaW s.size (by omega);go_enter func335,ntmps335
 go_wp2_with fail
 refine (zcX s.size w (by omega)).mono ?_;rintro e w1 ⟨rfl,hb⟩;go_wp2;go_ret;exact ⟨rfl,hb⟩
theorem zmP (s:ByteArray) (w:H) (hs:s.size≤140737488355328) :
 M J 288 #[U s] w fun e w'=>e=N (U (Vi.zaE s.size++s))∧I w.heap.size w w':=by
 have hp:=zaW s.size (by omega);go_enter func288,ntmps288
 go_wp2_with fail
 refine (zbH s.size w (by omega)).mono ?_;rintro e w1 ⟨rfl,hb⟩;go_wp2;go_ret;exact ⟨rfl,hb⟩
namespace Vi
def ztl (s:ByteArray):ByteArray:=zcG (za2 s) (zb3 s)
def ztF (s:ByteArray):ByteArray:=zdh (za2 s) (zb3 s)
def ztG (s:ByteArray):Bool:=zcd s&&zbC (za2 s) (zb3 s)
end Vi
theorem zh7:(prog.info? 151).map (·.size)=y 2:=by kernel_rfl
theorem zrC:liesAt J prog.depth 151 (2 / prog.cellsOf 151) 0 151 1=true:=by kernel_rfl
theorem zmQ:prog.cellsOf 5=1:=by kernel_rfl
theorem zg2 (b:Nat) (w:H) (h0:w.cell? ⟨b,0,C⟩=y (D (y ⟨b,0,C⟩))) :
 M J 149 #[D (y ⟨b,0,C⟩)] w fun e w'=>e=N (.tuple #[])∧w'=w:=by
 obtain ⟨j,hj,_⟩:=Option.map_eq_some_iff.1 zh7;go_enter func149,ntmps149;go_wp2;rw [Lib.run_neq_ptr_same w _ underlying149 hj];go_wp2;go_end0;exact ⟨rfl,rfl⟩
theorem zfZ (b:Nat) (w:H) (h0:w.cell? ⟨b,0,C⟩=y (D C)) (hsh:w.shape? b=y (151,2)) (hfz:w.frozen? ⟨b,0,C⟩=Y) :
 M J 149 #[D (y ⟨b,0,C⟩)] w fun e w'=>e=N (.tuple #[])∧w'=w.setCell ⟨b,0,C⟩ (D (y ⟨b,0,C⟩)):=by
 obtain ⟨j,hj,hjs⟩:=Option.map_eq_some_iff.1 zh7;go_enter func149,ntmps149;go_wp2;rw [Lib.run_to_unsafe w ⟨b,0,C⟩ underlying149 underlying265 hj (by rw [hjs];decide) hsh (Nat.zero_lt_succ 1)];simp only [Result.andThen];rw [Oper.upon_value];go_wp2;rw [run_callFunc_extern func199 (by kernel_rfl) (by kernel_rfl) (by kernel_rfl) (e:=Extern.AbiNoEscape.same) (by kernel_rfl)];rw [Lib.run_noEscape];simp only [Result.andThen];rw [Oper.upon_value];go_wp2;rw [Lib.run_from_unsafe w ⟨b,0,C⟩ underlying265 underlying149 hj hsh zrC];simp only [Result.andThen];rw [Oper.upon_value];go_wp2;go_end0;exact ⟨rfl,rfl⟩
theorem zpx (B b:Nat) (bs:List L) (w:H) (h:Lib.IsBuilder 151 5 B b bs w) :
 M J 149 #[D (y ⟨b,0,C⟩)] w fun e w'=>e=N (.tuple #[])∧Lib.BuilderAt 151 5 B b (D (y ⟨b,0,C⟩)) bs w'∧I B w w'∧qd 5 (y b) w w':=by
 rcases h with h|h
 ·refine (zfZ b w h.cell0 h.shape h.frozen0).mono ?_;rintro e w' ⟨rfl,rfl⟩;exact ⟨rfl,h.used _,(qe B w).setCell (p:=⟨b,0,C⟩) h.1 _,(Lib.OthersKept.refl _ _ w).setCell ⟨b,0,C⟩ rfl _⟩
 ·refine (zg2 b w h.cell0).mono ?_;rintro e w' ⟨rfl,rfl⟩;exact ⟨rfl,h,qe B _,Lib.OthersKept.refl _ _ _⟩
def zmR (B b:Nat) (x:ByteArray) (w:H):Prop:=Lib.IsBuilder 151 5 B b (Q x) w
theorem zf0 (x s:ByteArray):Q x++Q s=Q (x++s):=by
 unfold Q
 simp
theorem zpy (B b:Nat) (x s:ByteArray) (w:H) (h:zmR B b x w) (hlen:x.size+s.size≤140737488355328) (hBw:B≤w.heap.size) :
 M J 182 #[D (y ⟨b,0,C⟩),U s] w fun e w'=>e=N (.tuple #[.int V s.size,.nilIface])∧zmR B b (x++s) w'∧I B w w'∧qd 5 (y b) w w':=by
 obtain ⟨i0,hi,hz0,hz1,hz2⟩:=info_parts info5;have hck:=zh (zpx B b _ w h);clear h;have hlx:=zuL x;go_enter func182,ntmps182
 go_wp2_with (go_at_call 149;refine hck.out.mono ?_)
 rintro e w1 ⟨rfl,h1,hb1,ho1⟩;obtain ⟨hB,v,hbk,hown,hne⟩:=h1;have c0:w1.cell? ⟨b,0,C⟩=y (D (y ⟨b,0,C⟩)):=by rw [zuo hbk];rfl
 have c1:w1.cell? ⟨b,1,C⟩=y v:=by rw [zuo hbk];rfl
 go_wp2_with (at_builtin;refine Lib.wpList_append_own_string _ rfl _ _ 78 9 rfl B 5 i0 underlying78 underlying9 hi hz0 hz1 hz2 _ _ _ rfl hown s rfl ?c3 ?c4 ?c5 ?_)
 case c3=>unfold maxLen;omega
 case c4=>omega
 case c5=>have:=hb1.size;omega
 intro v' w2 hown' hgrow _;have hlt:b<w1.heap.size:=(zgx hbk)
 have hb2:w2.heap[b]?=y (G #[D (y ⟨b,0,C⟩),v] 151 (0,0)):=by
  rw [hgrow.block b hlt (fun e=>hne e.symm)];exact hbk
 have d0:w2.cell? ⟨b,0,C⟩=y (D (y ⟨b,0,C⟩)):=by rw [zuo hb2];rfl
 have d1:w2.cell? ⟨b,1,C⟩=y v:=by rw [zuo hb2];rfl
 have f1:w2.frozen? ⟨b,1,C⟩=Y:=zt6 hb2 1
 obtain ⟨ao,n',cap,rfl⟩:∃ ao n' cap,v'=.slice ao n' cap:=by
  rcases hown'.2 with ⟨hv,_⟩|⟨g,cap,cur,hv,_⟩
  ·exact ⟨_,_,_,hv⟩
  ·exact ⟨_,_,_,hv⟩
 go_wp2;go_ret2;refine ⟨rfl,?_,?_,?_⟩
 ·refine .inr ?_;rw [←zf0];exact Lib.BuilderAt.put (T:=151) (e:=5) hB hb2 (bs':=Q x++Q s) (by simpa [zuL] using hown') (by decide)
 ·exact (hb1.grown hgrow (by have:=hb1.size;omega) (fun k hk=>(hown.lt k hk).1)).setCell (p:=⟨b,1,C⟩) hB _
 ·refine (ho1.trans ?_:qd 5 (y b) w w2).setCell ⟨b,1,C⟩ rfl _;refine (Lib.OthersKept.refl 5 (y b) w1).grown hgrow fun g hg=>?_;rcases hown.2 with ⟨hv,_⟩|⟨g',cap',cur,hv,_,hg',_⟩
  ·rw [hv] at hg;simp [qf] at hg
  ·rw [hv] at hg;simp only [qf,Option.some.injEq] at hg;subst hg;exact ⟨cur,_,hg'⟩
theorem zeE (x:ByteArray):Q x=Z x.data.toList:=by
 unfold Q Z
 simp
theorem zmS (B b:Nat) (x:ByteArray) (w:H) (h:zmR B b x w) (hx:0<x.size) :
 M J 94 #[D (y ⟨b,0,C⟩)] w fun e w'=>e=N (U x)∧I B w w':=by
 obtain ⟨p,hB,v,hbk,hown,hne⟩:∃ p,Lib.BuilderAt 151 5 B b p (Z x.data.toList) w:=by
  unfold zmR at h;rw [zeE] at h;rcases h with h|h
  ·exact ⟨_,h⟩
  ·exact ⟨_,h⟩
 obtain ⟨l,hl⟩:∃ l,l=x.data.toList:=⟨_,rfl⟩;have hxe:x=⟨l.toArray⟩:=by rw [hl]
 have hl0:l.length≠0:=by rw [hl];simp;intro e;rw [e] at hx;exact absurd hx (by decide)
 have hne0:l≠[]:=fun e=>hl0 (by rw [e];rfl);rw [←hl] at hown;rw [hxe];clear hxe hl hx h;rw [zuf] at hown
 obtain ⟨g,cap,cur,rfl,hbg,hg,hnc,hcm,hcs,htake⟩:∃ g cap cur,v=qc (y ⟨g,0,C⟩) l.length cap∧B≤g∧w.heap[g]?=y (G cur 5 (0,0))∧l.length≤cap∧cap≤maxLen∧cur.size=cap*1∧cur.toList.take (l.length*1)=Z l:=by
  rcases hown.2 with ⟨_,hz⟩|⟨g,cap,cur,hv,r⟩
  ·exact absurd hz hl0
  ·exact ⟨g,cap,cur,hv,r⟩
 have c1:w.drew.cell? ⟨b,1,C⟩=y (qc (y ⟨g,0,C⟩) l.length cap):=by
  have:w.drew.heap[b]?=y (G #[p,qc (y ⟨g,0,C⟩) l.length cap] 151 (0,0)):=hbk
  rw [zuo this];rfl
 have hSD:(Builtin.unsafeSliceData_ #[78] 215 #[qc (y ⟨g,0,C⟩) l.length cap]).run J w.drew=.ok (D (y ⟨g,0,C⟩)) w.drew :=
  Lib.run_unsafeSliceData_row _ _ _ _ _ _ (by omega)
 have hUS:(Builtin.unsafeString_ #[215,3] 9 #[D (y ⟨g,0,C⟩),.int V l.length]).run J w.drew=.ok (U ⟨l.toArray⟩) (w.drew.freeze ⟨g,0,C⟩ l.length):=by
  refine Lib.run_unsafeString_row w.drew 215 3 9 5 underlying215 zmQ g cur.size (by have hg':w.drew.heap[g]?=y (G cur 5 (0,0)):=hg;simp [World.shape?,hg']) l hne0 (by omega) (by unfold maxLen at hcm;omega) ?_;intro j x hx
  have:=hown.cells (g:=g) rfl j (.int .u8 x.toNat) (by simp [Z,hx])
  exact this
 have mixed:prog.follows Departure.mixedOrders=true:=by kernel_rfl
 go_enter func94,ntmps94;go_wp2
 go_region_o
 all_goals (go_wp2;go_ret;exact ⟨rfl,Lib.below_freeze (Below.drew (qe B w)) (p:=⟨g,0,C⟩) hbg _⟩)
theorem zmR.below {B b:Nat} {x:ByteArray} {w1:H} (h:zmR B b x w) (hb:I w.heap.size w w1):zmR B b x w1:=by
 have key:∀ p,Lib.BuilderAt 151 5 B b p (Q x) w→Lib.BuilderAt 151 5 B b p (Q x) w1:=by
  rintro p ⟨hB,v,hbk,hown,hne⟩;refine ⟨hB,v,(hb.block b (zgx hbk)).trans hbk,?_,hne⟩
  exact hown.kept (row:=C) ⟨hb.os,hb.tape,hb.output,hb.size,fun k hk _=>hb.block k hk⟩ (by
   cases hv:v.ownBlock with
   | none=>exact .inl rfl
   | some k=>exact .inr (by simp))
 rcases h with h|h
 ·exact .inl (key _ h)
 ·exact .inr (key _ h)
def zdc (w w':H):Prop:=∀ (k:Nat) (cs:Array L) (T:TypeId),w.heap[k]?=y (G cs T (0,0))→70<T→T≠327→T≠151→w'.heap[k]?=y (G cs T (0,0))
theorem tyno {T T':TypeId} (hT:T≤70∨T=327∨T=151) (h2:70<T') (h3:T'≠327) (h4:T'≠151) (h5:T=T'):False:=by
 subst h5;have g2:(70:Nat)<(T:Nat):=h2;have g3:(T:Nat)≠327:=h3;have g4:(T:Nat)≠151:=h4;rcases hT with h|h|h
 ·exact absurd h (Nat.not_le_of_lt g2)
 ·exact g3 h
 ·exact g4 h
theorem zdc.refl (w:H):zdc w w:=fun _ _ _ h _ _ _=>h
theorem zdc.trans {a b c:H} (h:zdc a b) (k:zdc b c):zdc a c:=fun i cs T h1 h2 h3 h4=>k i cs T (h i cs T h1 h2 h3 h4) h2 h3 h4
theorem zdc.below (h:I w.heap.size w w'):zdc w w':=fun i cs T h1 _ _ _=>(h.block i (zgx h1)).trans h1
theorem zdc.grown {g:Nat} {T:TypeId} (h:w.grownBy w' (y g)) (hg:w.heap[g]?=y (G cs T (0,0))) (hT:T≤70∨T=327∨T=151):zdc w w':=fun i cs' T' h1 h2 h3 h4=>(h.block i (zgx h1) (fun e=>by
 have e':i=g:=by injection e
 subst e';rw [hg] at h1;injection h1 with h1;injection h1 with _ h5;exact tyno hT h2 h3 h4 h5)).trans h1
theorem zdc.set {p:Addr} {v:L} {T:TypeId} (hg:w.heap[p.block]?=y (G cs T (0,0))) (hT:T≤70∨T=327∨T=151):zdc w (w.setCell p v):=fun i cs' T' h1 h2 h3 h4=>by
 rw [ztX w p v i (fun e=>by
  subst e;rw [hg] at h1;injection h1 with h1;injection h1 with _ h5;exact tyno hT h2 h3 h4 h5)]
 exact h1
theorem zdc.others {b:Nat} {T:TypeId} (h:qd 5 (y b) w w') (hg:w.heap[b]?=y (G cs T (0,0))) (hT:T≤70∨T=327∨T=151):zdc w w':=fun i cs' T' h1 h2 h3 h4=>h i _ h1 (fun e=>by
 have e':i=b:=by injection e
 subst e';rw [hg] at h1;injection h1 with h1;injection h1 with _ h5;exact tyno hT h2 h3 h4 h5) (fun c z he=>by
 injection he with _ h5;exact tyno (T:=5) (.inl (by decide)) h2 h3 h4 h5.symm)
theorem zdd {k:Nat} {x:Obj} (o:Obj) (h:w.heap[k]?=y x):(w.alloc o).heap[k]?=y x:=(ztQ w o k (zgx h)).trans h
def zk9 (lo:Nat) (tA tN tP tR:TypeId) (kP kT fa fn fp fr:FuncId) (v1 v2:L) (w:H):Prop :=
 ∃ a n p r:Nat,(lo≤a∧lo≤n∧lo≤p∧lo≤r)∧v1=.func (.func kP) #[] #[D (y ⟨a,0,C⟩),D (y ⟨n,0,C⟩),D (y ⟨p,0,C⟩)]∧v2=.func (.func kT) #[] #[D (y ⟨r,0,C⟩),D (y ⟨n,0,C⟩),D (y ⟨a,0,C⟩)] ∧
  w.heap[a]?=y (G #[.func (.func fa) #[] #[]] tA (0,0))∧w.heap[n]?=y (G #[.func (.func fn) #[] #[]] tN (0,0))∧w.heap[p]?=y (G #[.func (.func fp) #[] #[]] tP (0,0))∧w.heap[r]?=y (G #[.func (.func fr) #[] #[]] tR (0,0))
theorem zk9.on {lo:Nat} {tA tN tP tR:TypeId} (h:zk9 lo tA tN tP tR kP kT fa fn fp fr v1 v2 w) (hs:zdc w w') (c:(70<tA∧tA≠327∧tA≠151)∧(70<tN∧tN≠327∧tN≠151)∧(70<tP∧tP≠327∧tP≠151)∧(70<tR∧tR≠327∧tR≠151)):zk9 lo tA tN tP tR kP kT fa fn fp fr v1 v2 w':=by
 obtain ⟨a,n,p,r,h0,h1,h2,h3,h4,h5,h6⟩:=h;exact ⟨a,n,p,r,h0,h1,h2,hs _ _ _ h3 c.1.1 c.1.2.1 c.1.2.2,hs _ _ _ h4 c.2.1.1 c.2.1.2.1 c.2.1.2.2,hs _ _ _ h5 c.2.2.1.1 c.2.2.1.2.1 c.2.2.1.2.2,hs _ _ _ h6 c.2.2.2.1 c.2.2.2.2.1 c.2.2.2.2.2⟩
theorem zk9.set {lo:Nat} {tA tN tP tR:TypeId} {q:Addr} {u:L} (h:zk9 lo tA tN tP tR kP kT fa fn fp fr v1 v2 w) (hq:q.block<lo):zk9 lo tA tN tP tR kP kT fa fn fp fr v1 v2 (w.setCell q u):=by
 obtain ⟨a,n,p,r,h0,h1,h2,h3,h4,h5,h6⟩:=h;exact ⟨a,n,p,r,h0,h1,h2,(ztX w q u _ (by omega)).trans h3,(ztX w q u _ (by omega)).trans h4,(ztX w q u _ (by omega)).trans h5,(ztX w q u _ (by omega)).trans h6⟩
theorem zk9.lo {lo lo':Nat} {tA tN tP tR:TypeId} {kP kT fa fn fp fr:FuncId} {v1 v2:L} {w:H} (h:zk9 lo tA tN tP tR kP kT fa fn fp fr v1 v2 w) (hl:lo'≤lo):zk9 lo' tA tN tP tR kP kT fa fn fp fr v1 v2 w:=by
 obtain ⟨a,n,p,r,h0,h1⟩:=h;exact ⟨a,n,p,r,by omega,h1⟩
abbrev FI (lo:Nat) (fa:FuncId) (v1 v2:L) (w:H):Prop:=zk9 lo 356 206 224 372 342 343 fa 326 327 328 v1 v2 w
abbrev FU (lo:Nat) (fa:FuncId) (v1 v2:L) (w:H):Prop:=zk9 lo 359 374 236 375 345 346 fa 330 331 332 v1 v2 w
abbrev FS (lo:Nat) (fa:FuncId) (v1 v2:L) (w:H):Prop:=zk9 lo 362 198 282 377 348 349 fa 334 335 336 v1 v2 w
theorem al4 (w:H) (a b c d:Obj):∃ W,W=(((w.alloc a).alloc b).alloc c).alloc d∧I w.heap.size w W∧W.heap.size=w.heap.size+1+1+1+1∧W.heap[w.heap.size]?=y a∧W.heap[w.heap.size+1]?=y b∧W.heap[w.heap.size+1+1]?=y c∧W.heap[w.heap.size+1+1+1]?=y d:=by
 refine ⟨_,rfl,?_,by simp,?_,?_,?_,?_⟩
 ·exact ((zba.alloc (by simp) _).alloc (by simp;omega) _).alloc (by simp;omega) _
 ·exact zdd _ (zdd _ (zdd _ (ztJ w a)))
 ·have h:=ztJ (w.alloc a) b;rw [ztR] at h;exact zdd _ (zdd _ h)
 ·have h:=ztJ ((w.alloc a).alloc b) c;rw [ztR,ztR] at h;exact zdd _ h
 ·have h:=ztJ (((w.alloc a).alloc b).alloc c) d;rw [ztR,ztR,ztR] at h;exact h
theorem zmI (fa:FuncId) (w:H) :
 M J 325 #[.func (.func fa) #[] #[],.func (.func 326) #[] #[],.func (.func 327) #[] #[],.func (.func 328) #[] #[]] w fun e w'=>∃ v1 v2,e=N (O #[v1,v2])∧FI w.heap.size fa v1 v2 w'∧I w.heap.size w w':=by
 have hmf:=zmL;obtain ⟨W,hW,hb,hWs,k0,k1,k2,k3⟩:=al4 w (G #[.func (.func fa) #[] #[]] 356) (G #[.func (.func 326) #[] #[]] 206) (G #[.func (.func 327) #[] #[]] 224) (G #[.func (.func 328) #[] #[]] 372);have HW:=zh hW;have HS:=zh hWs;have HB:=zh hb;have HK:Hid (FI w.heap.size fa (.func (.func 342) #[] #[D (y ⟨w.heap.size,0,C⟩),D (y ⟨w.heap.size+1,0,C⟩),D (y ⟨w.heap.size+1+1,0,C⟩)]) (.func (.func 343) #[] #[D (y ⟨w.heap.size+1+1+1,0,C⟩),D (y ⟨w.heap.size+1,0,C⟩),D (y ⟨w.heap.size,0,C⟩)]) W):=⟨_,_,_,_,⟨ztI _,by omega,by omega,by omega⟩,rfl,rfl,k0,k1,k2,k3⟩;clear hW hWs hb k0 k1 k2 k3;go_enter func325,ntmps325;go_wp2;refine ztP (v:=O #[.func (.func 342) #[] #[D (y ⟨w.heap.size,0,C⟩),D (y ⟨w.heap.size+1,0,C⟩),D (y ⟨w.heap.size+1+1,0,C⟩)],.func (.func 343) #[] #[D (y ⟨w.heap.size+1+1+1,0,C⟩),D (y ⟨w.heap.size+1,0,C⟩),D (y ⟨w.heap.size,0,C⟩)]]) (by simp [results,results325,go_sem]) rfl ⟨_,_,rfl,?_,?_⟩
 ·rw [←HW.out];exact HK.out.on (zdc.below zba) (by decide)
 ·rw [←HW.out];exact HB.out.alloc (by have:=HS.out;omega) _
theorem zmJ (fa:FuncId) (w:H) :
 M J 329 #[.func (.func fa) #[] #[],.func (.func 330) #[] #[],.func (.func 331) #[] #[],.func (.func 332) #[] #[]] w fun e w'=>∃ v1 v2,e=N (O #[v1,v2])∧FU w.heap.size fa v1 v2 w'∧I w.heap.size w w':=by
 have hmf:=zmL;obtain ⟨W,hW,hb,hWs,k0,k1,k2,k3⟩:=al4 w (G #[.func (.func fa) #[] #[]] 359) (G #[.func (.func 330) #[] #[]] 374) (G #[.func (.func 331) #[] #[]] 236) (G #[.func (.func 332) #[] #[]] 375);have HW:=zh hW;have HS:=zh hWs;have HB:=zh hb;have HK:Hid (FU w.heap.size fa (.func (.func 345) #[] #[D (y ⟨w.heap.size,0,C⟩),D (y ⟨w.heap.size+1,0,C⟩),D (y ⟨w.heap.size+1+1,0,C⟩)]) (.func (.func 346) #[] #[D (y ⟨w.heap.size+1+1+1,0,C⟩),D (y ⟨w.heap.size+1,0,C⟩),D (y ⟨w.heap.size,0,C⟩)]) W):=⟨_,_,_,_,⟨ztI _,by omega,by omega,by omega⟩,rfl,rfl,k0,k1,k2,k3⟩;clear hW hWs hb k0 k1 k2 k3;go_enter func329,ntmps329;go_wp2;refine ztP (v:=O #[.func (.func 345) #[] #[D (y ⟨w.heap.size,0,C⟩),D (y ⟨w.heap.size+1,0,C⟩),D (y ⟨w.heap.size+1+1,0,C⟩)],.func (.func 346) #[] #[D (y ⟨w.heap.size+1+1+1,0,C⟩),D (y ⟨w.heap.size+1,0,C⟩),D (y ⟨w.heap.size,0,C⟩)]]) (by simp [results,results329,go_sem]) rfl ⟨_,_,rfl,?_,?_⟩
 ·rw [←HW.out];exact HK.out.on (zdc.below zba) (by decide)
 ·rw [←HW.out];exact HB.out.alloc (by have:=HS.out;omega) _
theorem zmK (fa:FuncId) (w:H) :
 M J 333 #[.func (.func fa) #[] #[],.func (.func 334) #[] #[],.func (.func 335) #[] #[],.func (.func 336) #[] #[]] w fun e w'=>∃ v1 v2,e=N (O #[v1,v2])∧FS w.heap.size fa v1 v2 w'∧I w.heap.size w w':=by
 have hmf:=zmL;obtain ⟨W,hW,hb,hWs,k0,k1,k2,k3⟩:=al4 w (G #[.func (.func fa) #[] #[]] 362) (G #[.func (.func 334) #[] #[]] 198) (G #[.func (.func 335) #[] #[]] 282) (G #[.func (.func 336) #[] #[]] 377);have HW:=zh hW;have HS:=zh hWs;have HB:=zh hb;have HK:Hid (FS w.heap.size fa (.func (.func 348) #[] #[D (y ⟨w.heap.size,0,C⟩),D (y ⟨w.heap.size+1,0,C⟩),D (y ⟨w.heap.size+1+1,0,C⟩)]) (.func (.func 349) #[] #[D (y ⟨w.heap.size+1+1+1,0,C⟩),D (y ⟨w.heap.size+1,0,C⟩),D (y ⟨w.heap.size,0,C⟩)]) W):=⟨_,_,_,_,⟨ztI _,by omega,by omega,by omega⟩,rfl,rfl,k0,k1,k2,k3⟩;clear hW hWs hb k0 k1 k2 k3;go_enter func333,ntmps333;go_wp2;refine ztP (v:=O #[.func (.func 348) #[] #[D (y ⟨w.heap.size,0,C⟩),D (y ⟨w.heap.size+1,0,C⟩),D (y ⟨w.heap.size+1+1,0,C⟩)],.func (.func 349) #[] #[D (y ⟨w.heap.size+1+1+1,0,C⟩),D (y ⟨w.heap.size+1,0,C⟩),D (y ⟨w.heap.size,0,C⟩)]]) (by simp [results,results333,go_sem]) rfl ⟨_,_,rfl,?_,?_⟩
 ·rw [←HW.out];exact HK.out.on (zdc.below zba) (by decide)
 ·rw [←HW.out];exact HB.out.alloc (by have:=HS.out;omega) _
theorem zpg (fa:FuncId) (w:H) :
 M J 304 #[.func (.func fa) #[] #[]] w fun e w'=>∃ v1 v2,e=N (O #[v1,v2])∧FI (w.heap.size+1) fa v1 v2 w'∧I w.heap.size w w':=by
 have K:=zh (fun (W:H)=>zmI fa W);obtain ⟨W0,hW0⟩:∃ W0,W0=w.alloc (G #[.nilFunc,.nilFunc] 354):=⟨_,rfl⟩;have hb0:I w.heap.size w W0:=by rw [hW0];exact zba
 have hs0:W0.heap.size=w.heap.size+1:=by rw [hW0];simp
 have hk0:W0.heap[w.heap.size]?=y (G #[.nilFunc,.nilFunc] 354 (0,0)):=by rw [hW0];exact ztJ w _
 have HW:=zh hW0;have HB:=zh hb0;have HS:=zh hs0;have HK:=zh hk0;clear hW0 hb0 hs0 hk0;go_enter func304,ntmps304
 go_wp2_with fail
 rw [←HW.out];refine (K.out _).mono ?_;rintro e w1 ⟨v1,v2,rfl,⟨a,n,p,r,h0,rfl,rfl,h3,h4,h5,h6⟩,hb1⟩;have hk1:w1.heap[w.heap.size]?=y (G #[.nilFunc,.nilFunc] 354 (0,0)):=(hb1.block _ (by have:=HS.out;omega)).trans HK.out;have c0:w1.cell? ⟨w.heap.size,0,C⟩=y .nilFunc:=zcr w1 _ 0 _ 354 (0,0) hk1;have c1:w1.cell? ⟨w.heap.size,1,C⟩=y .nilFunc:=zcr w1 _ 1 _ 354 (0,0) hk1;have fz:∀ i,w1.frozen? ⟨w.heap.size,i,C⟩=Y:=fun i=>zt6 hk1 i;have HF:Hid (FI W0.heap.size fa (.func (.func 342) #[] #[D (y ⟨a,0,C⟩),D (y ⟨n,0,C⟩),D (y ⟨p,0,C⟩)]) (.func (.func 343) #[] #[D (y ⟨r,0,C⟩),D (y ⟨n,0,C⟩),D (y ⟨a,0,C⟩)]) w1):=⟨a,n,p,r,h0,rfl,rfl,h3,h4,h5,h6⟩;have HB1:=zh (HB.out.trans (hb1.mono HB.out.size));clear h0 h3 h4 h5 h6 hb1 hk1;go_wp2;refine ztP (v:=O #[.func (.func 342) #[] #[D (y ⟨a,0,C⟩),D (y ⟨n,0,C⟩),D (y ⟨p,0,C⟩)],.func (.func 343) #[] #[D (y ⟨r,0,C⟩),D (y ⟨n,0,C⟩),D (y ⟨a,0,C⟩)]]) (by simp [results,results304,go_sem,c0,c1]) rfl ⟨_,_,rfl,?_,?_⟩
 ·have hs:=HS.out;have h:=HF.out;rw [hs] at h;exact (h.set (by simp)).set (by simp)
 ·exact (HB1.out.setCell (p:=⟨w.heap.size,0,C⟩) (ztI _) _).setCell (p:=⟨w.heap.size,1,C⟩) (ztI _) _
theorem zph (fa:FuncId) (w:H) :
 M J 306 #[.func (.func fa) #[] #[]] w fun e w'=>∃ v1 v2,e=N (O #[v1,v2])∧FU (w.heap.size+1) fa v1 v2 w'∧I w.heap.size w w':=by
 have K:=zh (fun (W:H)=>zmJ fa W);obtain ⟨W0,hW0⟩:∃ W0,W0=w.alloc (G #[.nilFunc,.nilFunc] 354):=⟨_,rfl⟩;have hb0:I w.heap.size w W0:=by rw [hW0];exact zba
 have hs0:W0.heap.size=w.heap.size+1:=by rw [hW0];simp
 have hk0:W0.heap[w.heap.size]?=y (G #[.nilFunc,.nilFunc] 354 (0,0)):=by rw [hW0];exact ztJ w _
 have HW:=zh hW0;have HB:=zh hb0;have HS:=zh hs0;have HK:=zh hk0;clear hW0 hb0 hs0 hk0;go_enter func306,ntmps306
 go_wp2_with fail
 rw [←HW.out];refine (K.out _).mono ?_;rintro e w1 ⟨v1,v2,rfl,⟨a,n,p,r,h0,rfl,rfl,h3,h4,h5,h6⟩,hb1⟩;have hk1:w1.heap[w.heap.size]?=y (G #[.nilFunc,.nilFunc] 354 (0,0)):=(hb1.block _ (by have:=HS.out;omega)).trans HK.out;have c0:w1.cell? ⟨w.heap.size,0,C⟩=y .nilFunc:=zcr w1 _ 0 _ 354 (0,0) hk1;have c1:w1.cell? ⟨w.heap.size,1,C⟩=y .nilFunc:=zcr w1 _ 1 _ 354 (0,0) hk1;have fz:∀ i,w1.frozen? ⟨w.heap.size,i,C⟩=Y:=fun i=>zt6 hk1 i;have HF:Hid (FU W0.heap.size fa (.func (.func 345) #[] #[D (y ⟨a,0,C⟩),D (y ⟨n,0,C⟩),D (y ⟨p,0,C⟩)]) (.func (.func 346) #[] #[D (y ⟨r,0,C⟩),D (y ⟨n,0,C⟩),D (y ⟨a,0,C⟩)]) w1):=⟨a,n,p,r,h0,rfl,rfl,h3,h4,h5,h6⟩;have HB1:=zh (HB.out.trans (hb1.mono HB.out.size));clear h0 h3 h4 h5 h6 hb1 hk1;go_wp2;refine ztP (v:=O #[.func (.func 345) #[] #[D (y ⟨a,0,C⟩),D (y ⟨n,0,C⟩),D (y ⟨p,0,C⟩)],.func (.func 346) #[] #[D (y ⟨r,0,C⟩),D (y ⟨n,0,C⟩),D (y ⟨a,0,C⟩)]]) (by simp [results,results306,go_sem,c0,c1]) rfl ⟨_,_,rfl,?_,?_⟩
 ·have hs:=HS.out;have h:=HF.out;rw [hs] at h;exact (h.set (by simp)).set (by simp)
 ·exact (HB1.out.setCell (p:=⟨w.heap.size,0,C⟩) (ztI _) _).setCell (p:=⟨w.heap.size,1,C⟩) (ztI _) _
theorem zpi (fa:FuncId) (w:H) :
 M J 315 #[.func (.func fa) #[] #[]] w fun e w'=>∃ v1 v2,e=N (O #[v1,v2])∧FS (w.heap.size+1) fa v1 v2 w'∧I w.heap.size w w':=by
 have K:=zh (fun (W:H)=>zmK fa W);obtain ⟨W0,hW0⟩:∃ W0,W0=w.alloc (G #[.nilFunc,.nilFunc] 354):=⟨_,rfl⟩;have hb0:I w.heap.size w W0:=by rw [hW0];exact zba
 have hs0:W0.heap.size=w.heap.size+1:=by rw [hW0];simp
 have hk0:W0.heap[w.heap.size]?=y (G #[.nilFunc,.nilFunc] 354 (0,0)):=by rw [hW0];exact ztJ w _
 have HW:=zh hW0;have HB:=zh hb0;have HS:=zh hs0;have HK:=zh hk0;clear hW0 hb0 hs0 hk0;go_enter func315,ntmps315
 go_wp2_with fail
 rw [←HW.out];refine (K.out _).mono ?_;rintro e w1 ⟨v1,v2,rfl,⟨a,n,p,r,h0,rfl,rfl,h3,h4,h5,h6⟩,hb1⟩;have hk1:w1.heap[w.heap.size]?=y (G #[.nilFunc,.nilFunc] 354 (0,0)):=(hb1.block _ (by have:=HS.out;omega)).trans HK.out;have c0:w1.cell? ⟨w.heap.size,0,C⟩=y .nilFunc:=zcr w1 _ 0 _ 354 (0,0) hk1;have c1:w1.cell? ⟨w.heap.size,1,C⟩=y .nilFunc:=zcr w1 _ 1 _ 354 (0,0) hk1;have fz:∀ i,w1.frozen? ⟨w.heap.size,i,C⟩=Y:=fun i=>zt6 hk1 i;have HF:Hid (FS W0.heap.size fa (.func (.func 348) #[] #[D (y ⟨a,0,C⟩),D (y ⟨n,0,C⟩),D (y ⟨p,0,C⟩)]) (.func (.func 349) #[] #[D (y ⟨r,0,C⟩),D (y ⟨n,0,C⟩),D (y ⟨a,0,C⟩)]) w1):=⟨a,n,p,r,h0,rfl,rfl,h3,h4,h5,h6⟩;have HB1:=zh (HB.out.trans (hb1.mono HB.out.size));clear h0 h3 h4 h5 h6 hb1 hk1;go_wp2;refine ztP (v:=O #[.func (.func 348) #[] #[D (y ⟨a,0,C⟩),D (y ⟨n,0,C⟩),D (y ⟨p,0,C⟩)],.func (.func 349) #[] #[D (y ⟨r,0,C⟩),D (y ⟨n,0,C⟩),D (y ⟨a,0,C⟩)]]) (by simp [results,results315,go_sem,c0,c1]) rfl ⟨_,_,rfl,?_,?_⟩
 ·have hs:=HS.out;have h:=HF.out;rw [hs] at h;exact (h.set (by simp)).set (by simp)
 ·exact (HB1.out.setCell (p:=⟨w.heap.size,0,C⟩) (ztI _) _).setCell (p:=⟨w.heap.size,1,C⟩) (ztI _) _
def znV (b:Nat) (w:H):Prop :=
 ∃ v:Nat→L×L,w.heap[b]?=y (G #[.nilFunc,.nilFunc,(v 1).1,(v 1).2,(v 2).1,(v 2).2,(v 3).1,(v 3).2,(v 4).1,(v 4).2,(v 5).1,(v 5).2,(v 6).1,(v 6).2,(v 7).1,(v 7).2,(v 8).1,(v 8).2,(v 9).1,(v 9).2,(v 10).1,(v 10).2,(v 11).1,(v 11).2] 354 (0,0))∧FI 0 305 (v 1).1 (v 1).2 w∧FU 0 307 (v 2).1 (v 2).2 w∧FU 0 308 (v 3).1 (v 3).2 w∧FU 0 309 (v 4).1 (v 4).2 w∧FU 0 310 (v 5).1 (v 5).2 w∧FU 0 311 (v 6).1 (v 6).2 w∧FU 0 312 (v 7).1 (v 7).2 w∧FI 0 313 (v 8).1 (v 8).2 w∧FI 0 314 (v 9).1 (v 9).2 w∧FS 0 316 (v 10).1 (v 10).2 w∧FS 0 317 (v 11).1 (v 11).2 w
theorem znV.on {b:Nat} (h:znV b w) (hs:zdc w w'):znV b w':=by
 obtain ⟨v,h0,h1,h2,h3,h4,h5,h6,h7,h8,h9,h10,h11⟩:=h;exact ⟨v,hs _ _ _ h0 (by decide) (by decide) (by decide),h1.on hs (by decide),h2.on hs (by decide),h3.on hs (by decide),h4.on hs (by decide),h5.on hs (by decide),h6.on hs (by decide),h7.on hs (by decide),h8.on hs (by decide),h9.on hs (by decide),h10.on hs (by decide),h11.on hs (by decide)⟩
theorem znV.lt {b:Nat} (h:znV b w):b<w.heap.size:=by
 obtain ⟨v,h0,_⟩:=h;exact (zgx h0)
def pairs (p1 p2 p3 p4 p5 p6 p7 p8 p9 p10 p11:L×L):Nat→L×L
 | 1=>p1
 | 2=>p2
 | 3=>p3
 | 4=>p4
 | 5=>p5
 | 6=>p6
 | 7=>p7
 | 8=>p8
 | 9=>p9
 | 10=>p10
 | 11=>p11
 | _=>p1
theorem ziX (w:H) :
 M J 284 #[] w fun e w'=>∃ b,e=N (qc (y ⟨b,0,C⟩) 12 12)∧znV b w'∧I w.heap.size w w':=by
 have KI:=zh (fun (fa:FuncId) (W:H)=>zpg fa W);have KU:=zh (fun (fa:FuncId) (W:H)=>zph fa W);have KS:=zh (fun (fa:FuncId) (W:H)=>zpi fa W);go_enter func284,ntmps284
 go_wp2_with fail
 refine (KI.out 305 _).mono ?_;rintro e w1 ⟨_,_,rfl,⟨a1,n1,p1,r1,o1,rfl,rfl,ha1,hn1,hp1,hr1⟩,hb1⟩;have HF1:Hid (FI 0 305 (.func (.func 342) #[] #[D (y ⟨a1,0,C⟩),D (y ⟨n1,0,C⟩),D (y ⟨p1,0,C⟩)]) (.func (.func 343) #[] #[D (y ⟨r1,0,C⟩),D (y ⟨n1,0,C⟩),D (y ⟨a1,0,C⟩)]) w1):=⟨_,_,_,_,⟨ztO _,ztO _,ztO _,ztO _⟩,rfl,rfl,ha1,hn1,hp1,hr1⟩;have HB1:=zh hb1;clear o1 ha1 hn1 hp1 hr1 hb1
 go_wp2_with fail
 refine (KU.out 307 _).mono ?_;rintro e w2 ⟨_,_,rfl,⟨a2,n2,p2,r2,o2,rfl,rfl,ha2,hn2,hp2,hr2⟩,hb2⟩;have HF2:Hid (FU 0 307 (.func (.func 345) #[] #[D (y ⟨a2,0,C⟩),D (y ⟨n2,0,C⟩),D (y ⟨p2,0,C⟩)]) (.func (.func 346) #[] #[D (y ⟨r2,0,C⟩),D (y ⟨n2,0,C⟩),D (y ⟨a2,0,C⟩)]) w2):=⟨_,_,_,_,⟨ztO _,ztO _,ztO _,ztO _⟩,rfl,rfl,ha2,hn2,hp2,hr2⟩;have HB2:=zh hb2;clear o2 ha2 hn2 hp2 hr2 hb2
 go_wp2_with fail
 refine (KU.out 308 _).mono ?_;rintro e w3 ⟨_,_,rfl,⟨a3,n3,p3,r3,o3,rfl,rfl,ha3,hn3,hp3,hr3⟩,hb3⟩;have HF3:Hid (FU 0 308 (.func (.func 345) #[] #[D (y ⟨a3,0,C⟩),D (y ⟨n3,0,C⟩),D (y ⟨p3,0,C⟩)]) (.func (.func 346) #[] #[D (y ⟨r3,0,C⟩),D (y ⟨n3,0,C⟩),D (y ⟨a3,0,C⟩)]) w3):=⟨_,_,_,_,⟨ztO _,ztO _,ztO _,ztO _⟩,rfl,rfl,ha3,hn3,hp3,hr3⟩;have HB3:=zh hb3;clear o3 ha3 hn3 hp3 hr3 hb3
 go_wp2_with fail
 refine (KU.out 309 _).mono ?_;rintro e w4 ⟨_,_,rfl,⟨a4,n4,p4,r4,o4,rfl,rfl,ha4,hn4,hp4,hr4⟩,hb4⟩;have HF4:Hid (FU 0 309 (.func (.func 345) #[] #[D (y ⟨a4,0,C⟩),D (y ⟨n4,0,C⟩),D (y ⟨p4,0,C⟩)]) (.func (.func 346) #[] #[D (y ⟨r4,0,C⟩),D (y ⟨n4,0,C⟩),D (y ⟨a4,0,C⟩)]) w4):=⟨_,_,_,_,⟨ztO _,ztO _,ztO _,ztO _⟩,rfl,rfl,ha4,hn4,hp4,hr4⟩;have HB4:=zh hb4;clear o4 ha4 hn4 hp4 hr4 hb4
 go_wp2_with fail
 refine (KU.out 310 _).mono ?_;rintro e w5 ⟨_,_,rfl,⟨a5,n5,p5,r5,o5,rfl,rfl,ha5,hn5,hp5,hr5⟩,hb5⟩;have HF5:Hid (FU 0 310 (.func (.func 345) #[] #[D (y ⟨a5,0,C⟩),D (y ⟨n5,0,C⟩),D (y ⟨p5,0,C⟩)]) (.func (.func 346) #[] #[D (y ⟨r5,0,C⟩),D (y ⟨n5,0,C⟩),D (y ⟨a5,0,C⟩)]) w5):=⟨_,_,_,_,⟨ztO _,ztO _,ztO _,ztO _⟩,rfl,rfl,ha5,hn5,hp5,hr5⟩;have HB5:=zh hb5;clear o5 ha5 hn5 hp5 hr5 hb5
 go_wp2_with fail
 refine (KU.out 311 _).mono ?_;rintro e w6 ⟨_,_,rfl,⟨a6,n6,p6,r6,o6,rfl,rfl,ha6,hn6,hp6,hr6⟩,hb6⟩;have HF6:Hid (FU 0 311 (.func (.func 345) #[] #[D (y ⟨a6,0,C⟩),D (y ⟨n6,0,C⟩),D (y ⟨p6,0,C⟩)]) (.func (.func 346) #[] #[D (y ⟨r6,0,C⟩),D (y ⟨n6,0,C⟩),D (y ⟨a6,0,C⟩)]) w6):=⟨_,_,_,_,⟨ztO _,ztO _,ztO _,ztO _⟩,rfl,rfl,ha6,hn6,hp6,hr6⟩;have HB6:=zh hb6;clear o6 ha6 hn6 hp6 hr6 hb6
 go_wp2_with fail
 refine (KU.out 312 _).mono ?_;rintro e w7 ⟨_,_,rfl,⟨a7,n7,p7,r7,o7,rfl,rfl,ha7,hn7,hp7,hr7⟩,hb7⟩;have HF7:Hid (FU 0 312 (.func (.func 345) #[] #[D (y ⟨a7,0,C⟩),D (y ⟨n7,0,C⟩),D (y ⟨p7,0,C⟩)]) (.func (.func 346) #[] #[D (y ⟨r7,0,C⟩),D (y ⟨n7,0,C⟩),D (y ⟨a7,0,C⟩)]) w7):=⟨_,_,_,_,⟨ztO _,ztO _,ztO _,ztO _⟩,rfl,rfl,ha7,hn7,hp7,hr7⟩;have HB7:=zh hb7;clear o7 ha7 hn7 hp7 hr7 hb7
 go_wp2_with fail
 refine (KI.out 313 _).mono ?_;rintro e w8 ⟨_,_,rfl,⟨a8,n8,p8,r8,o8,rfl,rfl,ha8,hn8,hp8,hr8⟩,hb8⟩;have HF8:Hid (FI 0 313 (.func (.func 342) #[] #[D (y ⟨a8,0,C⟩),D (y ⟨n8,0,C⟩),D (y ⟨p8,0,C⟩)]) (.func (.func 343) #[] #[D (y ⟨r8,0,C⟩),D (y ⟨n8,0,C⟩),D (y ⟨a8,0,C⟩)]) w8):=⟨_,_,_,_,⟨ztO _,ztO _,ztO _,ztO _⟩,rfl,rfl,ha8,hn8,hp8,hr8⟩;have HB8:=zh hb8;clear o8 ha8 hn8 hp8 hr8 hb8
 go_wp2_with fail
 refine (KI.out 314 _).mono ?_;rintro e w9 ⟨_,_,rfl,⟨a9,n9,p9,r9,o9,rfl,rfl,ha9,hn9,hp9,hr9⟩,hb9⟩;have HF9:Hid (FI 0 314 (.func (.func 342) #[] #[D (y ⟨a9,0,C⟩),D (y ⟨n9,0,C⟩),D (y ⟨p9,0,C⟩)]) (.func (.func 343) #[] #[D (y ⟨r9,0,C⟩),D (y ⟨n9,0,C⟩),D (y ⟨a9,0,C⟩)]) w9):=⟨_,_,_,_,⟨ztO _,ztO _,ztO _,ztO _⟩,rfl,rfl,ha9,hn9,hp9,hr9⟩;have HB9:=zh hb9;clear o9 ha9 hn9 hp9 hr9 hb9
 go_wp2_with fail
 refine (KS.out 316 _).mono ?_;rintro e w10 ⟨_,_,rfl,⟨a10,n10,p10,r10,o10,rfl,rfl,ha10,hn10,hp10,hr10⟩,hb10⟩;have HF10:Hid (FS 0 316 (.func (.func 348) #[] #[D (y ⟨a10,0,C⟩),D (y ⟨n10,0,C⟩),D (y ⟨p10,0,C⟩)]) (.func (.func 349) #[] #[D (y ⟨r10,0,C⟩),D (y ⟨n10,0,C⟩),D (y ⟨a10,0,C⟩)]) w10):=⟨_,_,_,_,⟨ztO _,ztO _,ztO _,ztO _⟩,rfl,rfl,ha10,hn10,hp10,hr10⟩;have HB10:=zh hb10;clear o10 ha10 hn10 hp10 hr10 hb10
 go_wp2_with fail
 refine (KS.out 317 _).mono ?_;rintro e w11 ⟨_,_,rfl,⟨a11,n11,p11,r11,o11,rfl,rfl,ha11,hn11,hp11,hr11⟩,hb11⟩;have HF11:Hid (FS 0 317 (.func (.func 348) #[] #[D (y ⟨a11,0,C⟩),D (y ⟨n11,0,C⟩),D (y ⟨p11,0,C⟩)]) (.func (.func 349) #[] #[D (y ⟨r11,0,C⟩),D (y ⟨n11,0,C⟩),D (y ⟨a11,0,C⟩)]) w11):=⟨_,_,_,_,⟨ztO _,ztO _,ztO _,ztO _⟩,rfl,rfl,ha11,hn11,hp11,hr11⟩;have HB11:=zh hb11;clear o11 ha11 hn11 hp11 hr11 hb11;go_wp2;go_ret;have s12:=zdc.below ((qe w11.heap.size w11).alloc (ztI _) (G #[.nilFunc,.nilFunc,.func (.func 342) #[] #[D (y ⟨a1,0,C⟩),D (y ⟨n1,0,C⟩),D (y ⟨p1,0,C⟩)],.func (.func 343) #[] #[D (y ⟨r1,0,C⟩),D (y ⟨n1,0,C⟩),D (y ⟨a1,0,C⟩)],.func (.func 345) #[] #[D (y ⟨a2,0,C⟩),D (y ⟨n2,0,C⟩),D (y ⟨p2,0,C⟩)],.func (.func 346) #[] #[D (y ⟨r2,0,C⟩),D (y ⟨n2,0,C⟩),D (y ⟨a2,0,C⟩)],.func (.func 345) #[] #[D (y ⟨a3,0,C⟩),D (y ⟨n3,0,C⟩),D (y ⟨p3,0,C⟩)],.func (.func 346) #[] #[D (y ⟨r3,0,C⟩),D (y ⟨n3,0,C⟩),D (y ⟨a3,0,C⟩)],.func (.func 345) #[] #[D (y ⟨a4,0,C⟩),D (y ⟨n4,0,C⟩),D (y ⟨p4,0,C⟩)],.func (.func 346) #[] #[D (y ⟨r4,0,C⟩),D (y ⟨n4,0,C⟩),D (y ⟨a4,0,C⟩)],.func (.func 345) #[] #[D (y ⟨a5,0,C⟩),D (y ⟨n5,0,C⟩),D (y ⟨p5,0,C⟩)],.func (.func 346) #[] #[D (y ⟨r5,0,C⟩),D (y ⟨n5,0,C⟩),D (y ⟨a5,0,C⟩)],.func (.func 345) #[] #[D (y ⟨a6,0,C⟩),D (y ⟨n6,0,C⟩),D (y ⟨p6,0,C⟩)],.func (.func 346) #[] #[D (y ⟨r6,0,C⟩),D (y ⟨n6,0,C⟩),D (y ⟨a6,0,C⟩)],.func (.func 345) #[] #[D (y ⟨a7,0,C⟩),D (y ⟨n7,0,C⟩),D (y ⟨p7,0,C⟩)],.func (.func 346) #[] #[D (y ⟨r7,0,C⟩),D (y ⟨n7,0,C⟩),D (y ⟨a7,0,C⟩)],.func (.func 342) #[] #[D (y ⟨a8,0,C⟩),D (y ⟨n8,0,C⟩),D (y ⟨p8,0,C⟩)],.func (.func 343) #[] #[D (y ⟨r8,0,C⟩),D (y ⟨n8,0,C⟩),D (y ⟨a8,0,C⟩)],.func (.func 342) #[] #[D (y ⟨a9,0,C⟩),D (y ⟨n9,0,C⟩),D (y ⟨p9,0,C⟩)],.func (.func 343) #[] #[D (y ⟨r9,0,C⟩),D (y ⟨n9,0,C⟩),D (y ⟨a9,0,C⟩)],.func (.func 348) #[] #[D (y ⟨a10,0,C⟩),D (y ⟨n10,0,C⟩),D (y ⟨p10,0,C⟩)],.func (.func 349) #[] #[D (y ⟨r10,0,C⟩),D (y ⟨n10,0,C⟩),D (y ⟨a10,0,C⟩)],.func (.func 348) #[] #[D (y ⟨a11,0,C⟩),D (y ⟨n11,0,C⟩),D (y ⟨p11,0,C⟩)],.func (.func 349) #[] #[D (y ⟨r11,0,C⟩),D (y ⟨n11,0,C⟩),D (y ⟨a11,0,C⟩)]] 354));have s11:zdc w11 _:=s12;have s10:=(zdc.below HB11.out).trans s11;have s9:=(zdc.below HB10.out).trans s10;have s8:=(zdc.below HB9.out).trans s9;have s7:=(zdc.below HB8.out).trans s8;have s6:=(zdc.below HB7.out).trans s7;have s5:=(zdc.below HB6.out).trans s6;have s4:=(zdc.below HB5.out).trans s5;have s3:=(zdc.below HB4.out).trans s4;have s2:=(zdc.below HB3.out).trans s3;have s1:=(zdc.below HB2.out).trans s2;have b1:=HB1.out;have b2:=b1.trans (HB2.out.mono b1.size);have b3:=b2.trans (HB3.out.mono b2.size);have b4:=b3.trans (HB4.out.mono b3.size);have b5:=b4.trans (HB5.out.mono b4.size);have b6:=b5.trans (HB6.out.mono b5.size);have b7:=b6.trans (HB7.out.mono b6.size);have b8:=b7.trans (HB8.out.mono b7.size);have b9:=b8.trans (HB9.out.mono b8.size);have b10:=b9.trans (HB10.out.mono b9.size);have b11:=b10.trans (HB11.out.mono b10.size);refine ⟨_,rfl,⟨pairs (.func (.func 342) #[] #[D (y ⟨a1,0,C⟩),D (y ⟨n1,0,C⟩),D (y ⟨p1,0,C⟩)],.func (.func 343) #[] #[D (y ⟨r1,0,C⟩),D (y ⟨n1,0,C⟩),D (y ⟨a1,0,C⟩)]) (.func (.func 345) #[] #[D (y ⟨a2,0,C⟩),D (y ⟨n2,0,C⟩),D (y ⟨p2,0,C⟩)],.func (.func 346) #[] #[D (y ⟨r2,0,C⟩),D (y ⟨n2,0,C⟩),D (y ⟨a2,0,C⟩)]) (.func (.func 345) #[] #[D (y ⟨a3,0,C⟩),D (y ⟨n3,0,C⟩),D (y ⟨p3,0,C⟩)],.func (.func 346) #[] #[D (y ⟨r3,0,C⟩),D (y ⟨n3,0,C⟩),D (y ⟨a3,0,C⟩)]) (.func (.func 345) #[] #[D (y ⟨a4,0,C⟩),D (y ⟨n4,0,C⟩),D (y ⟨p4,0,C⟩)],.func (.func 346) #[] #[D (y ⟨r4,0,C⟩),D (y ⟨n4,0,C⟩),D (y ⟨a4,0,C⟩)]) (.func (.func 345) #[] #[D (y ⟨a5,0,C⟩),D (y ⟨n5,0,C⟩),D (y ⟨p5,0,C⟩)],.func (.func 346) #[] #[D (y ⟨r5,0,C⟩),D (y ⟨n5,0,C⟩),D (y ⟨a5,0,C⟩)]) (.func (.func 345) #[] #[D (y ⟨a6,0,C⟩),D (y ⟨n6,0,C⟩),D (y ⟨p6,0,C⟩)],.func (.func 346) #[] #[D (y ⟨r6,0,C⟩),D (y ⟨n6,0,C⟩),D (y ⟨a6,0,C⟩)]) (.func (.func 345) #[] #[D (y ⟨a7,0,C⟩),D (y ⟨n7,0,C⟩),D (y ⟨p7,0,C⟩)],.func (.func 346) #[] #[D (y ⟨r7,0,C⟩),D (y ⟨n7,0,C⟩),D (y ⟨a7,0,C⟩)]) (.func (.func 342) #[] #[D (y ⟨a8,0,C⟩),D (y ⟨n8,0,C⟩),D (y ⟨p8,0,C⟩)],.func (.func 343) #[] #[D (y ⟨r8,0,C⟩),D (y ⟨n8,0,C⟩),D (y ⟨a8,0,C⟩)]) (.func (.func 342) #[] #[D (y ⟨a9,0,C⟩),D (y ⟨n9,0,C⟩),D (y ⟨p9,0,C⟩)],.func (.func 343) #[] #[D (y ⟨r9,0,C⟩),D (y ⟨n9,0,C⟩),D (y ⟨a9,0,C⟩)]) (.func (.func 348) #[] #[D (y ⟨a10,0,C⟩),D (y ⟨n10,0,C⟩),D (y ⟨p10,0,C⟩)],.func (.func 349) #[] #[D (y ⟨r10,0,C⟩),D (y ⟨n10,0,C⟩),D (y ⟨a10,0,C⟩)]) (.func (.func 348) #[] #[D (y ⟨a11,0,C⟩),D (y ⟨n11,0,C⟩),D (y ⟨p11,0,C⟩)],.func (.func 349) #[] #[D (y ⟨r11,0,C⟩),D (y ⟨n11,0,C⟩),D (y ⟨a11,0,C⟩)]),ztJ w11 _,HF1.out.on s1 (by decide),HF2.out.on s2 (by decide),HF3.out.on s3 (by decide),HF4.out.on s4 (by decide),HF5.out.on s5 (by decide),HF6.out.on s6 (by decide),HF7.out.on s7 (by decide),HF8.out.on s8 (by decide),HF9.out.on s9 (by decide),HF10.out.on s10 (by decide),HF11.out.on s11 (by decide)⟩,b11.alloc b11.size _⟩
section
namespace Vi
theorem zel (n:Nat):0<(zaE n).size:=by unfold zaE;rw [zb2];exact zb8 n
theorem ziY (t:ByteArray):(⟨#[]⟩:ByteArray)++t=t:=by apply ByteArray.ext;simp
end Vi
open Vi
structure Fmt (R:Type) where
 P:Nat→R→ByteArray
 S:Nat→R→ByteArray→R×ByteArray×Bool
 cut:R→Nat→R
 ok:R→Prop
section
variable {R:Type} (F:Fmt R)
def fdB (X:R) (t:Nat):ByteArray:=if (F.P t X).size=0 then ⟨#[]⟩ else zaE t++F.P t X
def zdA (X:R):Nat→ByteArray
 | 0=>⟨#[]⟩
 | k+1=>zdA X k++fdB F X (k+1)
def zb0 (X:R):ByteArray:=zdA F X 11++zaE 0
def pk:Nat→Nat→R→ByteArray→Bool→R×ByteArray×Bool
 | 0,_,E,T,b=>(E,T,b)
 | n+1,last,E,T,b =>
   if zb3 T=0 then (E,za2 T,b||!zcd T)
   else if zb3 T≤last∨12≤zb3 T then (E,⟨#[]⟩,true)
   else pk n (zb3 T) (F.S (zb3 T) E (za2 T)).1 (F.S (zb3 T) E (za2 T)).2.1 (b||!zcd T||!(F.S (zb3 T) E (za2 T)).2.2)
variable {F}
end
end
section
open Vi
structure zfY (e:En):Prop where
 k0:0≤e.kind
 k1:e.kind≤11
 n0:0≤e.node
 n1:e.node≤7
 l0:0≤e.level
 l1:e.level≤2
 d:e.data.size≤64
 o:e.old.size≤64
 b:e.block≤4294967295
 m:e.many≤4294967295
theorem zg0 {e:En} (ok:e.Ok) (h:zas e=true):zfY e:=by
 have A:=(zcW e ok).1 h;have f:0≤e.kind∧e.kind≤11:=of_decide_eq_true A.f;have hd:=A.d1;have ho:=A.o1;refine ⟨f.1,f.2,?_,?_,?_,?_,by omega,by omega,A.b1,A.m1⟩
 ·exact both (fun h=>by have:=A.n1 h;omega) (fun h=>by have:=A.n0 h;omega)
 ·exact both (fun h=>by have:=A.n1 h;omega) (fun h=>by have:=A.n0 h;omega)
 ·exact both (fun h=>by have:=A.l1 h;omega) (fun h=>by have:=A.l0 h;omega)
 ·exact both (fun h=>by have:=A.l1 h;omega) (fun h=>by have:=A.l0 h;omega)
def nb (v:Int):ByteArray:=if v=0 then ⟨#[]⟩ else zaE v.toNat
def tb (d:ByteArray):ByteArray:=if d.size=0 then ⟨#[]⟩ else zaE d.size++d
theorem zpw (d:ByteArray):d.size=0↔d=⟨#[]⟩:=by
 constructor
 ·intro h;exact ByteArray.ext (Array.eq_empty_of_size_eq_zero h)
 ·rintro rfl;rfl
def fP:Nat→En→ByteArray
 | 1,X=>nb X.kind
 | 2,X=>nb X.term
 | 3,X=>nb X.index
 | 4,X=>nb X.client
 | 5,X=>nb X.seq
 | 6,X=>nb X.block
 | 7,X=>nb X.many
 | 8,X=>nb X.node
 | 9,X=>nb X.level
 | 10,X=>tb X.data
 | 11,X=>tb X.old
 | _,_=>⟨#[]⟩
def ztC:Nat→En→Nat→En
 | 1,E,v=>{ E with kind:=V.wrap v }
 | 2,E,v=>{ E with term:=v }
 | 3,E,v=>{ E with index:=v }
 | 4,E,v=>{ E with client:=v }
 | 5,E,v=>{ E with seq:=v }
 | 6,E,v=>{ E with block:=v }
 | 7,E,v=>{ E with many:=v }
 | 8,E,v=>{ E with node:=V.wrap v }
 | 9,E,v=>{ E with level:=V.wrap v }
 | _,E,_=>E
def ztD:Nat→En→ByteArray→En
 | 10,E,d=>{ E with data:=d }
 | 11,E,d=>{ E with old:=d }
 | _,E,_=>E
def ztE (X:En) (k:Nat):En :=
 { term:=if 2≤k then X.term else 0,index:=if 3≤k then X.index else 0,kind:=if 1≤k then X.kind else 0,client:=if 4≤k then X.client else 0,seq:=if 5≤k then X.seq else 0,block:=if 6≤k then X.block else 0,many:=if 7≤k then X.many else 0,node:=if 8≤k then X.node else 0,level:=if 9≤k then X.level else 0,data:=if 10≤k then X.data else ⟨#[]⟩,old:=if 11≤k then X.old else ⟨#[]⟩ }
def fS (t:Nat) (E:En) (T:ByteArray):En×ByteArray×Bool :=
 if t≤9 then (ztC t E (zb3 T),if zb3 T=0 then ⟨#[]⟩ else za2 T,zcd T&&decide (zb3 T≠0))
 else (ztD t E (ztl T),if (ztl T).size=0 then ⟨#[]⟩ else ztF T,ztG T&&decide ((ztl T).size≠0))
abbrev eF:Fmt En:={ P:=fP,S:=fS,cut:=ztE,ok:=fun X=>X.Ok∧zfY X }
theorem w64 {v:Int} (h0:0≤v) (h1:v≤1000):V.wrap (max v 0)=v:=by
 rw [show max v 0=v by omega];exact IntWalk.i64_in _ (by omega)
theorem zg1 {X:En} (ok:X.Ok) (fw:zfY X):(0≤X.kind∧X.kind≤1000)∧(0≤X.term∧X.term≤18446744073709551615)∧(0≤X.index∧X.index≤18446744073709551615)∧(0≤X.client∧X.client≤18446744073709551615)∧(0≤X.seq∧X.seq≤18446744073709551615)∧(0≤X.block∧X.block≤18446744073709551615)∧(0≤X.many∧X.many≤18446744073709551615)∧(0≤X.node∧X.node≤1000)∧(0≤X.level∧X.level≤1000)∧X.data.size≤64∧X.old.size≤64:=by
 have k1:=fw.k1;have n1:=fw.n1;have l1:=fw.l1;have b1:=fw.b;have m1:=fw.m;exact ⟨⟨fw.k0,by omega⟩,⟨ok.t0,ok.t1⟩,⟨ok.i0,ok.i1⟩,⟨ok.c0,ok.c1⟩,⟨ok.s0,ok.s1⟩,⟨ok.b0,by omega⟩,⟨ok.m0,by omega⟩,⟨fw.n0,by omega⟩,⟨fw.l0,by omega⟩,fw.d,fw.o⟩
def sbE (X:En):ByteArray:=zb0 eF X
end
end Go.Proofs.YtidndekacnmihaaGreat
