/- Parts of a proof. -/
import Derived.Test.YtidndekacnmihaaGreatC15
set_option linter.all false
set_option maxHeartbeats 8000000
set_option maxRecDepth 100000
namespace Go.Proofs.YtidndekacnmihaaGreat
open Ending renaming returned→E
open Go renaming World→A,Calls→C
open Go.RowKit renaming Below→H,intOf→R
open Go.RowKit.Below renaming refl→L
open IntKind renaming i64→I,u64→J
open Obj renaming cells→M
open Option renaming some→g,none→j
open Tryz renaming prog→D
open Value renaming pointer→z,int→F,string→G,bool→N,tuple→O,slice→Q
open Tryz
variable {x:ByteArray} {W w:A} {fb:Nat}
open Go.RowKit
section
open Vi
section
theorem zeroI_yes (w:A):C D 326 #[F I 0] w fun e w'=>e=E (N true)∧w=w':=by
 go_enter func326,ntmps326;go_wp2;go_ret;exact ⟨rfl,rfl⟩
theorem zeroI_no (v:Int) (w:A) (h:v≠0):C D 326 #[F I v] w fun e w'=>e=E (N false)∧w=w':=by
 go_enter func326,ntmps326;go_wp2;go_ret;exact ⟨by simp [h],rfl⟩
theorem zeroU_yes (w:A):C D 330 #[F J 0] w fun e w'=>e=E (N true)∧w=w':=by
 go_enter func330,ntmps330;go_wp2;go_ret;exact ⟨rfl,rfl⟩
theorem zeroU_no (v:Int) (w:A) (h:v≠0):C D 330 #[F J v] w fun e w'=>e=E (N false)∧w=w':=by
 go_enter func330,ntmps330;go_wp2;go_ret;exact ⟨by simp [h],rfl⟩
theorem zeroS_yes (w:A):C D 334 #[G ⟨#[]⟩] w fun e w'=>e=E (N true)∧w=w':=by
 go_enter func334,ntmps334;go_wp2;go_ret;exact ⟨rfl,rfl⟩
theorem zeroS_no (s:ByteArray) (w:A) (h:s.size≠0):C D 334 #[G s] w fun e w'=>e=E (N false)∧w=w':=by
 have h2:¬ s=ByteArray.empty:=fun e=>h (by rw [e];rfl);go_enter func334,ntmps334;go_wp2;go_ret
 have h3:¬ s.toList=[]:=by
  rw [zur];intro e
  have:=congrArg List.length e
  exact h (by simpa using this)
 exact ⟨by simp [h2,h3],rfl⟩
theorem zfw (n:Nat) (w:A) (h:n<9223372036854775808):C D 327 #[F I n] w fun e w'=>e=E (G (zaE n))∧H w.heap.size w w':=by
 have hw:J.wrap (n:Int)=(n:Int):=IntWalk.u64_in _ (by omega);have K:=zh (zcX n w (by omega));clear h;go_enter func327,ntmps327
 go_wp2_with fail
 refine K.out.mono ?_;rintro e w1 ⟨rfl,hb⟩;go_wp2;go_ret;exact ⟨rfl,hb⟩
theorem zcl (n:Nat) (w:A) (h:n<18446744073709551616):C D 331 #[F J n] w fun e w'=>e=E (G (zaE n))∧H w.heap.size w w':=by
 have K:=zh (zcX n w h);have hw:J.wrap (n:Int)=(n:Int):=IntWalk.u64_in _ (by omega);clear h;go_enter func331,ntmps331
 go_wp2_with fail
 refine K.out.mono ?_;rintro e w1 ⟨rfl,hb⟩;go_wp2;go_ret;exact ⟨rfl,hb⟩
theorem zrs (q:Nat) (w:A):C D 305 #[z (g ⟨q,0,j⟩)] w fun e w'=>e=E (z (g ⟨q,2,j⟩))∧w=w':=by
 go_enter func305,ntmps305;go_wp2;go_ret;exact ⟨rfl,rfl⟩
theorem zpj (q a nn p:Nat) (n:Nat) (w:A) (hc:w.cell? ⟨q,2,j⟩=g (F I n)) (ha:w.cell? ⟨a,0,j⟩=g (.func (.func 305) #[] #[])) (hn:w.cell? ⟨nn,0,j⟩=g (.func (.func 326) #[] #[])) (hp:w.cell? ⟨p,0,j⟩=g (.func (.func 327) #[] #[])) (h:n<9223372036854775808) :
 C D 342 #[z (g ⟨q,0,j⟩),z (g ⟨a,0,j⟩),z (g ⟨nn,0,j⟩),z (g ⟨p,0,j⟩)] w fun e w'=>e=E (G (nb n))∧H w.heap.size w w':=by
 have HAT:=zh (zrs q)
 by_cases h0:n=0
 ·skip;subst h0;have K:=zh zeroI_yes;have e0:nb ((0:Nat):Int)=⟨#[]⟩:=rfl;rw [e0];clear h e0;go_enter func342,ntmps342
  go_wp2_with fail
  refine (HAT.out _).mono ?_;rintro e w1 ⟨rfl,rfl⟩
  go_wp2_with fail
  refine (K.out _).mono ?_;rintro e w1 ⟨rfl,rfl⟩;go_wp2;go_ret;exact ⟨rfl,L _ _⟩
 ·skip;have K:=zh (fun W=>zeroI_no (n:Int) W (by omega));have K2:=zh (fun W=>zfw n W h);have e0:nb (n:Int)=zaE n:=by unfold nb;rw [if_neg (by omega),ztV]
  rw [e0];clear h e0 h0;go_enter func342,ntmps342
  go_wp2_with fail
  refine (HAT.out _).mono ?_;rintro e w1 ⟨rfl,rfl⟩
  go_wp2_with fail
  refine (K.out _).mono ?_;rintro e w1 ⟨rfl,rfl⟩
  go_wp2_with fail
  refine (K2.out _).mono ?_;rintro e w1 ⟨rfl,hb⟩;go_wp2;go_ret;exact ⟨rfl,hb⟩
theorem zrt (q:Nat) (w:A):C D 307 #[z (g ⟨q,0,j⟩)] w fun e w'=>e=E (z (g ⟨q,0,j⟩))∧w=w':=by
 go_enter func307,ntmps307;go_wp2;go_ret;exact ⟨rfl,rfl⟩
theorem zpk (q a nn p:Nat) (n:Nat) (w:A) (hc:w.cell? ⟨q,0,j⟩=g (F J n)) (ha:w.cell? ⟨a,0,j⟩=g (.func (.func 307) #[] #[])) (hn:w.cell? ⟨nn,0,j⟩=g (.func (.func 330) #[] #[])) (hp:w.cell? ⟨p,0,j⟩=g (.func (.func 331) #[] #[])) (h:n<18446744073709551616) :
 C D 345 #[z (g ⟨q,0,j⟩),z (g ⟨a,0,j⟩),z (g ⟨nn,0,j⟩),z (g ⟨p,0,j⟩)] w fun e w'=>e=E (G (nb n))∧H w.heap.size w w':=by
 have HAT:=zh (zrt q)
 by_cases h0:n=0
 ·skip;subst h0;have K:=zh zeroU_yes;have e0:nb ((0:Nat):Int)=⟨#[]⟩:=rfl;rw [e0];clear h e0;go_enter func345,ntmps345
  go_wp2_with fail
  refine (HAT.out _).mono ?_;rintro e w1 ⟨rfl,rfl⟩
  go_wp2_with fail
  refine (K.out _).mono ?_;rintro e w1 ⟨rfl,rfl⟩;go_wp2;go_ret;exact ⟨rfl,L _ _⟩
 ·skip;have K:=zh (fun W=>zeroU_no (n:Int) W (by omega));have K2:=zh (fun W=>zcl n W h);have e0:nb (n:Int)=zaE n:=by unfold nb;rw [if_neg (by omega),ztV]
  rw [e0];clear h e0 h0;go_enter func345,ntmps345
  go_wp2_with fail
  refine (HAT.out _).mono ?_;rintro e w1 ⟨rfl,rfl⟩
  go_wp2_with fail
  refine (K.out _).mono ?_;rintro e w1 ⟨rfl,rfl⟩
  go_wp2_with fail
  refine (K2.out _).mono ?_;rintro e w1 ⟨rfl,hb⟩;go_wp2;go_ret;exact ⟨rfl,hb⟩
theorem zru (q:Nat) (w:A):C D 308 #[z (g ⟨q,0,j⟩)] w fun e w'=>e=E (z (g ⟨q,1,j⟩))∧w=w':=by
 go_enter func308,ntmps308;go_wp2;go_ret;exact ⟨rfl,rfl⟩
theorem zpl (q a nn p:Nat) (n:Nat) (w:A) (hc:w.cell? ⟨q,1,j⟩=g (F J n)) (ha:w.cell? ⟨a,0,j⟩=g (.func (.func 308) #[] #[])) (hn:w.cell? ⟨nn,0,j⟩=g (.func (.func 330) #[] #[])) (hp:w.cell? ⟨p,0,j⟩=g (.func (.func 331) #[] #[])) (h:n<18446744073709551616) :
 C D 345 #[z (g ⟨q,0,j⟩),z (g ⟨a,0,j⟩),z (g ⟨nn,0,j⟩),z (g ⟨p,0,j⟩)] w fun e w'=>e=E (G (nb n))∧H w.heap.size w w':=by
 have HAT:=zh (zru q)
 by_cases h0:n=0
 ·skip;subst h0;have K:=zh zeroU_yes;have e0:nb ((0:Nat):Int)=⟨#[]⟩:=rfl;rw [e0];clear h e0;go_enter func345,ntmps345
  go_wp2_with fail
  refine (HAT.out _).mono ?_;rintro e w1 ⟨rfl,rfl⟩
  go_wp2_with fail
  refine (K.out _).mono ?_;rintro e w1 ⟨rfl,rfl⟩;go_wp2;go_ret;exact ⟨rfl,L _ _⟩
 ·skip;have K:=zh (fun W=>zeroU_no (n:Int) W (by omega));have K2:=zh (fun W=>zcl n W h);have e0:nb (n:Int)=zaE n:=by unfold nb;rw [if_neg (by omega),ztV]
  rw [e0];clear h e0 h0;go_enter func345,ntmps345
  go_wp2_with fail
  refine (HAT.out _).mono ?_;rintro e w1 ⟨rfl,rfl⟩
  go_wp2_with fail
  refine (K.out _).mono ?_;rintro e w1 ⟨rfl,rfl⟩
  go_wp2_with fail
  refine (K2.out _).mono ?_;rintro e w1 ⟨rfl,hb⟩;go_wp2;go_ret;exact ⟨rfl,hb⟩
theorem zrv (q:Nat) (w:A):C D 309 #[z (g ⟨q,0,j⟩)] w fun e w'=>e=E (z (g ⟨q,3,j⟩))∧w=w':=by
 go_enter func309,ntmps309;go_wp2;go_ret;exact ⟨rfl,rfl⟩
theorem zpm (q a nn p:Nat) (n:Nat) (w:A) (hc:w.cell? ⟨q,3,j⟩=g (F J n)) (ha:w.cell? ⟨a,0,j⟩=g (.func (.func 309) #[] #[])) (hn:w.cell? ⟨nn,0,j⟩=g (.func (.func 330) #[] #[])) (hp:w.cell? ⟨p,0,j⟩=g (.func (.func 331) #[] #[])) (h:n<18446744073709551616) :
 C D 345 #[z (g ⟨q,0,j⟩),z (g ⟨a,0,j⟩),z (g ⟨nn,0,j⟩),z (g ⟨p,0,j⟩)] w fun e w'=>e=E (G (nb n))∧H w.heap.size w w':=by
 have HAT:=zh (zrv q)
 by_cases h0:n=0
 ·skip;subst h0;have K:=zh zeroU_yes;have e0:nb ((0:Nat):Int)=⟨#[]⟩:=rfl;rw [e0];clear h e0;go_enter func345,ntmps345
  go_wp2_with fail
  refine (HAT.out _).mono ?_;rintro e w1 ⟨rfl,rfl⟩
  go_wp2_with fail
  refine (K.out _).mono ?_;rintro e w1 ⟨rfl,rfl⟩;go_wp2;go_ret;exact ⟨rfl,L _ _⟩
 ·skip;have K:=zh (fun W=>zeroU_no (n:Int) W (by omega));have K2:=zh (fun W=>zcl n W h);have e0:nb (n:Int)=zaE n:=by unfold nb;rw [if_neg (by omega),ztV]
  rw [e0];clear h e0 h0;go_enter func345,ntmps345
  go_wp2_with fail
  refine (HAT.out _).mono ?_;rintro e w1 ⟨rfl,rfl⟩
  go_wp2_with fail
  refine (K.out _).mono ?_;rintro e w1 ⟨rfl,rfl⟩
  go_wp2_with fail
  refine (K2.out _).mono ?_;rintro e w1 ⟨rfl,hb⟩;go_wp2;go_ret;exact ⟨rfl,hb⟩
theorem zrw (q:Nat) (w:A):C D 310 #[z (g ⟨q,0,j⟩)] w fun e w'=>e=E (z (g ⟨q,4,j⟩))∧w=w':=by
 go_enter func310,ntmps310;go_wp2;go_ret;exact ⟨rfl,rfl⟩
theorem zpn (q a nn p:Nat) (n:Nat) (w:A) (hc:w.cell? ⟨q,4,j⟩=g (F J n)) (ha:w.cell? ⟨a,0,j⟩=g (.func (.func 310) #[] #[])) (hn:w.cell? ⟨nn,0,j⟩=g (.func (.func 330) #[] #[])) (hp:w.cell? ⟨p,0,j⟩=g (.func (.func 331) #[] #[])) (h:n<18446744073709551616) :
 C D 345 #[z (g ⟨q,0,j⟩),z (g ⟨a,0,j⟩),z (g ⟨nn,0,j⟩),z (g ⟨p,0,j⟩)] w fun e w'=>e=E (G (nb n))∧H w.heap.size w w':=by
 have HAT:=zh (zrw q)
 by_cases h0:n=0
 ·skip;subst h0;have K:=zh zeroU_yes;have e0:nb ((0:Nat):Int)=⟨#[]⟩:=rfl;rw [e0];clear h e0;go_enter func345,ntmps345
  go_wp2_with fail
  refine (HAT.out _).mono ?_;rintro e w1 ⟨rfl,rfl⟩
  go_wp2_with fail
  refine (K.out _).mono ?_;rintro e w1 ⟨rfl,rfl⟩;go_wp2;go_ret;exact ⟨rfl,L _ _⟩
 ·skip;have K:=zh (fun W=>zeroU_no (n:Int) W (by omega));have K2:=zh (fun W=>zcl n W h);have e0:nb (n:Int)=zaE n:=by unfold nb;rw [if_neg (by omega),ztV]
  rw [e0];clear h e0 h0;go_enter func345,ntmps345
  go_wp2_with fail
  refine (HAT.out _).mono ?_;rintro e w1 ⟨rfl,rfl⟩
  go_wp2_with fail
  refine (K.out _).mono ?_;rintro e w1 ⟨rfl,rfl⟩
  go_wp2_with fail
  refine (K2.out _).mono ?_;rintro e w1 ⟨rfl,hb⟩;go_wp2;go_ret;exact ⟨rfl,hb⟩
theorem zrx (q:Nat) (w:A):C D 311 #[z (g ⟨q,0,j⟩)] w fun e w'=>e=E (z (g ⟨q,5,j⟩))∧w=w':=by
 go_enter func311,ntmps311;go_wp2;go_ret;exact ⟨rfl,rfl⟩
theorem zpo (q a nn p:Nat) (n:Nat) (w:A) (hc:w.cell? ⟨q,5,j⟩=g (F J n)) (ha:w.cell? ⟨a,0,j⟩=g (.func (.func 311) #[] #[])) (hn:w.cell? ⟨nn,0,j⟩=g (.func (.func 330) #[] #[])) (hp:w.cell? ⟨p,0,j⟩=g (.func (.func 331) #[] #[])) (h:n<18446744073709551616) :
 C D 345 #[z (g ⟨q,0,j⟩),z (g ⟨a,0,j⟩),z (g ⟨nn,0,j⟩),z (g ⟨p,0,j⟩)] w fun e w'=>e=E (G (nb n))∧H w.heap.size w w':=by
 have HAT:=zh (zrx q)
 by_cases h0:n=0
 ·skip;subst h0;have K:=zh zeroU_yes;have e0:nb ((0:Nat):Int)=⟨#[]⟩:=rfl;rw [e0];clear h e0;go_enter func345,ntmps345
  go_wp2_with fail
  refine (HAT.out _).mono ?_;rintro e w1 ⟨rfl,rfl⟩
  go_wp2_with fail
  refine (K.out _).mono ?_;rintro e w1 ⟨rfl,rfl⟩;go_wp2;go_ret;exact ⟨rfl,L _ _⟩
 ·skip;have K:=zh (fun W=>zeroU_no (n:Int) W (by omega));have K2:=zh (fun W=>zcl n W h);have e0:nb (n:Int)=zaE n:=by unfold nb;rw [if_neg (by omega),ztV]
  rw [e0];clear h e0 h0;go_enter func345,ntmps345
  go_wp2_with fail
  refine (HAT.out _).mono ?_;rintro e w1 ⟨rfl,rfl⟩
  go_wp2_with fail
  refine (K.out _).mono ?_;rintro e w1 ⟨rfl,rfl⟩
  go_wp2_with fail
  refine (K2.out _).mono ?_;rintro e w1 ⟨rfl,hb⟩;go_wp2;go_ret;exact ⟨rfl,hb⟩
theorem zry (q:Nat) (w:A):C D 312 #[z (g ⟨q,0,j⟩)] w fun e w'=>e=E (z (g ⟨q,6,j⟩))∧w=w':=by
 go_enter func312,ntmps312;go_wp2;go_ret;exact ⟨rfl,rfl⟩
theorem zpp (q a nn p:Nat) (n:Nat) (w:A) (hc:w.cell? ⟨q,6,j⟩=g (F J n)) (ha:w.cell? ⟨a,0,j⟩=g (.func (.func 312) #[] #[])) (hn:w.cell? ⟨nn,0,j⟩=g (.func (.func 330) #[] #[])) (hp:w.cell? ⟨p,0,j⟩=g (.func (.func 331) #[] #[])) (h:n<18446744073709551616) :
 C D 345 #[z (g ⟨q,0,j⟩),z (g ⟨a,0,j⟩),z (g ⟨nn,0,j⟩),z (g ⟨p,0,j⟩)] w fun e w'=>e=E (G (nb n))∧H w.heap.size w w':=by
 have HAT:=zh (zry q)
 by_cases h0:n=0
 ·skip;subst h0;have K:=zh zeroU_yes;have e0:nb ((0:Nat):Int)=⟨#[]⟩:=rfl;rw [e0];clear h e0;go_enter func345,ntmps345
  go_wp2_with fail
  refine (HAT.out _).mono ?_;rintro e w1 ⟨rfl,rfl⟩
  go_wp2_with fail
  refine (K.out _).mono ?_;rintro e w1 ⟨rfl,rfl⟩;go_wp2;go_ret;exact ⟨rfl,L _ _⟩
 ·skip;have K:=zh (fun W=>zeroU_no (n:Int) W (by omega));have K2:=zh (fun W=>zcl n W h);have e0:nb (n:Int)=zaE n:=by unfold nb;rw [if_neg (by omega),ztV]
  rw [e0];clear h e0 h0;go_enter func345,ntmps345
  go_wp2_with fail
  refine (HAT.out _).mono ?_;rintro e w1 ⟨rfl,rfl⟩
  go_wp2_with fail
  refine (K.out _).mono ?_;rintro e w1 ⟨rfl,rfl⟩
  go_wp2_with fail
  refine (K2.out _).mono ?_;rintro e w1 ⟨rfl,hb⟩;go_wp2;go_ret;exact ⟨rfl,hb⟩
theorem zrz (q:Nat) (w:A):C D 313 #[z (g ⟨q,0,j⟩)] w fun e w'=>e=E (z (g ⟨q,7,j⟩))∧w=w':=by
 go_enter func313,ntmps313;go_wp2;go_ret;exact ⟨rfl,rfl⟩
theorem zpq (q a nn p:Nat) (n:Nat) (w:A) (hc:w.cell? ⟨q,7,j⟩=g (F I n)) (ha:w.cell? ⟨a,0,j⟩=g (.func (.func 313) #[] #[])) (hn:w.cell? ⟨nn,0,j⟩=g (.func (.func 326) #[] #[])) (hp:w.cell? ⟨p,0,j⟩=g (.func (.func 327) #[] #[])) (h:n<9223372036854775808) :
 C D 342 #[z (g ⟨q,0,j⟩),z (g ⟨a,0,j⟩),z (g ⟨nn,0,j⟩),z (g ⟨p,0,j⟩)] w fun e w'=>e=E (G (nb n))∧H w.heap.size w w':=by
 have HAT:=zh (zrz q)
 by_cases h0:n=0
 ·skip;subst h0;have K:=zh zeroI_yes;have e0:nb ((0:Nat):Int)=⟨#[]⟩:=rfl;rw [e0];clear h e0;go_enter func342,ntmps342
  go_wp2_with fail
  refine (HAT.out _).mono ?_;rintro e w1 ⟨rfl,rfl⟩
  go_wp2_with fail
  refine (K.out _).mono ?_;rintro e w1 ⟨rfl,rfl⟩;go_wp2;go_ret;exact ⟨rfl,L _ _⟩
 ·skip;have K:=zh (fun W=>zeroI_no (n:Int) W (by omega));have K2:=zh (fun W=>zfw n W h);have e0:nb (n:Int)=zaE n:=by unfold nb;rw [if_neg (by omega),ztV]
  rw [e0];clear h e0 h0;go_enter func342,ntmps342
  go_wp2_with fail
  refine (HAT.out _).mono ?_;rintro e w1 ⟨rfl,rfl⟩
  go_wp2_with fail
  refine (K.out _).mono ?_;rintro e w1 ⟨rfl,rfl⟩
  go_wp2_with fail
  refine (K2.out _).mono ?_;rintro e w1 ⟨rfl,hb⟩;go_wp2;go_ret;exact ⟨rfl,hb⟩
theorem zrA (q:Nat) (w:A):C D 314 #[z (g ⟨q,0,j⟩)] w fun e w'=>e=E (z (g ⟨q,8,j⟩))∧w=w':=by
 go_enter func314,ntmps314;go_wp2;go_ret;exact ⟨rfl,rfl⟩
theorem zpr (q a nn p:Nat) (n:Nat) (w:A) (hc:w.cell? ⟨q,8,j⟩=g (F I n)) (ha:w.cell? ⟨a,0,j⟩=g (.func (.func 314) #[] #[])) (hn:w.cell? ⟨nn,0,j⟩=g (.func (.func 326) #[] #[])) (hp:w.cell? ⟨p,0,j⟩=g (.func (.func 327) #[] #[])) (h:n<9223372036854775808) :
 C D 342 #[z (g ⟨q,0,j⟩),z (g ⟨a,0,j⟩),z (g ⟨nn,0,j⟩),z (g ⟨p,0,j⟩)] w fun e w'=>e=E (G (nb n))∧H w.heap.size w w':=by
 have HAT:=zh (zrA q)
 by_cases h0:n=0
 ·skip;subst h0;have K:=zh zeroI_yes;have e0:nb ((0:Nat):Int)=⟨#[]⟩:=rfl;rw [e0];clear h e0;go_enter func342,ntmps342
  go_wp2_with fail
  refine (HAT.out _).mono ?_;rintro e w1 ⟨rfl,rfl⟩
  go_wp2_with fail
  refine (K.out _).mono ?_;rintro e w1 ⟨rfl,rfl⟩;go_wp2;go_ret;exact ⟨rfl,L _ _⟩
 ·skip;have K:=zh (fun W=>zeroI_no (n:Int) W (by omega));have K2:=zh (fun W=>zfw n W h);have e0:nb (n:Int)=zaE n:=by unfold nb;rw [if_neg (by omega),ztV]
  rw [e0];clear h e0 h0;go_enter func342,ntmps342
  go_wp2_with fail
  refine (HAT.out _).mono ?_;rintro e w1 ⟨rfl,rfl⟩
  go_wp2_with fail
  refine (K.out _).mono ?_;rintro e w1 ⟨rfl,rfl⟩
  go_wp2_with fail
  refine (K2.out _).mono ?_;rintro e w1 ⟨rfl,hb⟩;go_wp2;go_ret;exact ⟨rfl,hb⟩
theorem zps (q:Nat) (w:A):C D 316 #[z (g ⟨q,0,j⟩)] w fun e w'=>e=E (z (g ⟨q,9,j⟩))∧w=w':=by
 go_enter func316,ntmps316;go_wp2;go_ret;exact ⟨rfl,rfl⟩
theorem zmM (q a nn p:Nat) (d:ByteArray) (w:A) (hc:w.cell? ⟨q,9,j⟩=g (G d)) (ha:w.cell? ⟨a,0,j⟩=g (.func (.func 316) #[] #[])) (hn:w.cell? ⟨nn,0,j⟩=g (.func (.func 334) #[] #[])) (hp:w.cell? ⟨p,0,j⟩=g (.func (.func 335) #[] #[])) (h:d.size≤140737488355328) :
 C D 348 #[z (g ⟨q,0,j⟩),z (g ⟨a,0,j⟩),z (g ⟨nn,0,j⟩),z (g ⟨p,0,j⟩)] w fun e w'=>e=E (G (tb d))∧H w.heap.size w w':=by
 have HAT:=zh (zps q)
 by_cases h0:d.size=0
 ·skip;have hd:=(zpw d).1 h0;subst hd;have e0:tb ⟨#[]⟩=⟨#[]⟩:=rfl;rw [e0];have K:=zh zeroS_yes;clear h e0 h0;go_enter func348,ntmps348
  go_wp2_with fail
  refine (HAT.out _).mono ?_;rintro e w1 ⟨rfl,rfl⟩
  go_wp2_with fail
  refine (K.out _).mono ?_;rintro e w1 ⟨rfl,rfl⟩;go_wp2;go_ret;exact ⟨rfl,L _ _⟩
 ·skip;have K:=zh (fun W=>zeroS_no d W h0);have K2:=zh (fun W=>zjQ d W h);have e0:tb d=zaE d.size++d:=by unfold tb;rw [if_neg h0]
  rw [e0];clear h e0 h0;go_enter func348,ntmps348
  go_wp2_with fail
  refine (HAT.out _).mono ?_;rintro e w1 ⟨rfl,rfl⟩
  go_wp2_with fail
  refine (K.out _).mono ?_;rintro e w1 ⟨rfl,rfl⟩
  go_wp2_with fail
  refine (K2.out _).mono ?_;rintro e w1 ⟨rfl,hb⟩;go_wp2;go_ret;exact ⟨rfl,hb⟩
theorem zpt (q:Nat) (w:A):C D 317 #[z (g ⟨q,0,j⟩)] w fun e w'=>e=E (z (g ⟨q,10,j⟩))∧w=w':=by
 go_enter func317,ntmps317;go_wp2;go_ret;exact ⟨rfl,rfl⟩
theorem zmN (q a nn p:Nat) (d:ByteArray) (w:A) (hc:w.cell? ⟨q,10,j⟩=g (G d)) (ha:w.cell? ⟨a,0,j⟩=g (.func (.func 317) #[] #[])) (hn:w.cell? ⟨nn,0,j⟩=g (.func (.func 334) #[] #[])) (hp:w.cell? ⟨p,0,j⟩=g (.func (.func 335) #[] #[])) (h:d.size≤140737488355328) :
 C D 348 #[z (g ⟨q,0,j⟩),z (g ⟨a,0,j⟩),z (g ⟨nn,0,j⟩),z (g ⟨p,0,j⟩)] w fun e w'=>e=E (G (tb d))∧H w.heap.size w w':=by
 have HAT:=zh (zpt q)
 by_cases h0:d.size=0
 ·skip;have hd:=(zpw d).1 h0;subst hd;have e0:tb ⟨#[]⟩=⟨#[]⟩:=rfl;rw [e0];have K:=zh zeroS_yes;clear h e0 h0;go_enter func348,ntmps348
  go_wp2_with fail
  refine (HAT.out _).mono ?_;rintro e w1 ⟨rfl,rfl⟩
  go_wp2_with fail
  refine (K.out _).mono ?_;rintro e w1 ⟨rfl,rfl⟩;go_wp2;go_ret;exact ⟨rfl,L _ _⟩
 ·skip;have K:=zh (fun W=>zeroS_no d W h0);have K2:=zh (fun W=>zjQ d W h);have e0:tb d=zaE d.size++d:=by unfold tb;rw [if_neg h0]
  rw [e0];clear h e0 h0;go_enter func348,ntmps348
  go_wp2_with fail
  refine (HAT.out _).mono ?_;rintro e w1 ⟨rfl,rfl⟩
  go_wp2_with fail
  refine (K.out _).mono ?_;rintro e w1 ⟨rfl,rfl⟩
  go_wp2_with fail
  refine (K2.out _).mono ?_;rintro e w1 ⟨rfl,hb⟩;go_wp2;go_ret;exact ⟨rfl,hb⟩
end
end
section
open Vi
theorem zbD (n:Nat) (h:n<18446744073709551616):(zaE n).size≤10:=zaW n h
theorem ztj (v:Int) (h:v≤18446744073709551615):(nb v).size≤10:=by
 unfold nb
 split
 ·exact ztO _
 ·exact zbD _ (by omega)
theorem zsG (d:ByteArray) (h:d.size≤64):(tb d).size≤74:=by
 unfold tb
 split
 ·exact ztO _
 ·rw [ztS]
  have:=zbD d.size (by omega)
  omega
theorem zem {X:En} (ok:X.Ok) (fw:zfY X) (t:Nat):(fP t X).size≤74:=by
 obtain ⟨a1,a2,a3,a4,a5,a6,a7,a8,a9,a10,a11⟩:=zg1 ok fw;have nn:∀ v:Int,v≤18446744073709551615→(nb v).size≤74:=fun v h=>ztL (ztj v h) (by omega);unfold fP
 split
 ·exact nn _ (by omega)
 ·exact nn _ a2.2
 ·exact nn _ a3.2
 ·exact nn _ a4.2
 ·exact nn _ a5.2
 ·exact nn _ a6.2
 ·exact nn _ a7.2
 ·exact nn _ (by omega)
 ·exact nn _ (by omega)
 ·exact zsG _ a10
 ·exact zsG _ a11
 ·exact ztO _
theorem zsH {X:En} (ok:X.Ok) (fw:zfY X) (t:Nat) (ht:t<12):(fdB eF X t).size≤84:=by
 unfold fdB
 split
 ·exact ztO _
 ·rw [ztS]
  have:=zbD t (by omega)
  have h:(fP t X).size≤74:=zem ok fw t;have h2:(eF.P t X).size≤74:=h;omega
theorem zgY {X:En} (ok:X.Ok) (fw:zfY X):∀ k,k≤11→(zdA eF X k).size≤84*k
 | 0,_=>ztO _
 | k+1,h=>by
   have ih:=zgY ok fw k (by omega);have h1:=zsH ok fw (k+1) (by omega);show (zdA eF X k++fdB eF X (k+1)).size≤_;rw [ztS];omega
theorem zrB {X:En} (k:Nat) (h:(fP (k+1) X).size=0):zdA eF X (k+1)=zdA eF X k:=by
 show zdA eF X k++fdB eF X (k+1)=_;have h2:(eF.P (k+1) X).size=0:=h;unfold fdB;rw [if_pos h2];apply ByteArray.ext
 simp
theorem zpu {X:En} (k:Nat) (h:(fP (k+1) X).size≠0):zdA eF X (k+1)=zdA eF X k++zaE (k+1)++fP (k+1) X:=by
 show zdA eF X k++fdB eF X (k+1)=_;have h2:¬ (eF.P (k+1) X).size=0:=h;unfold fdB;rw [if_neg h2,zaK]
structure Ps (w0:A) (fb:Nat) (X:En) (x:ByteArray) (w:A):Prop where
 t:zmR (w0.heap.size+1) (w0.heap.size+1) x w
 be:H w0.heap.size w0 w
 box:w.heap[w0.heap.size]?=g (M (ec X) 69 (0,0))
 fl:znV fb w
section
variable {w0 w w1:A} {fb:Nat} {X:En} {x y:ByteArray}
theorem zmR.blk {B b:Nat} (h:zmR B b x w):∃ cs,w.heap[b]?=g (M cs 151 (0,0)):=by
 rcases h with ⟨_,v,hbk,_⟩|⟨_,v,hbk,_⟩<;>exact ⟨_,hbk⟩
theorem Ps.sz (h:Ps w0 fb X x w):w0.heap.size+1<w.heap.size:=by
 obtain ⟨cs,hb⟩:=h.t.blk;exact (zgx hb)
theorem Ps.call (h:Ps w0 fb X x w) (hb:H w.heap.size w w1):Ps w0 fb X x w1:=by
 have hs:=h.sz;exact ⟨h.t.below hb,h.be.trans (hb.mono (by omega)),(hb.block _ (by omega)).trans h.box,h.fl.on (zdc.below hb)⟩
theorem Ps.write (h:Ps w0 fb X x w) (ht:zmR (w0.heap.size+1) (w0.heap.size+1) y w1) (hb:H (w0.heap.size+1) w w1) (ho:Lib.OthersKept 5 (g (w0.heap.size+1)) w w1):Ps w0 fb X y w1:=by
 obtain ⟨cs,hc⟩:=h.t.blk;exact ⟨ht,h.be.trans (hb.mono (by omega)),(hb.block _ (by omega)).trans h.box,h.fl.on (zdc.others ho hc (.inr (.inr rfl)))⟩
theorem Ps.cell (h:Ps w0 fb X x w) (i:Nat):w.cell? ⟨w0.heap.size,i,j⟩=(ec X)[i]?:=zcr w _ i _ 69 (0,0) h.box
end
theorem zjP (w0:A) (fb:Nat) (X:En) (x s:ByteArray) (w:A) (h:Ps w0 fb X x w) (hl:x.size+s.size≤140737488355328) :
 C D 182 #[z (g ⟨w0.heap.size+1,0,j⟩),G s] w fun e w'=>e=E (O #[F I s.size,.nilIface])∧Ps w0 fb X (x++s) w':=by
 have hs:=h.sz;exact (zpy _ _ x s w h.t hl (by omega)).mono fun e w' ⟨h1,h2,h3,h4⟩=>⟨h1,h.write h2 h3 h4⟩
theorem zqj (w0:A) (fb:Nat) (X:En) (x:ByteArray) (t:Nat) (w:A) (h:Ps w0 fb X x w) (hl:x.size≤10000) (ht:t<12) :
 C D 303 #[F I t,z (g ⟨w0.heap.size+1,0,j⟩)] w fun e w'=>e=E (O #[])∧Ps w0 fb X (x++zaE t) w':=by
 have hw:J.wrap (t:Int)=(t:Int):=IntWalk.u64_in _ (by omega);have K1:=zh (zcX t w (by omega));have hps:=zbD t (by omega);have K2:Hid (∀ W,H w.heap.size w W→C D 182 #[z (g ⟨w0.heap.size+1,0,j⟩),G (zaE t)] W fun e w'=>e=E (O #[F I (zaE t).size,.nilIface])∧Ps w0 fb X (x++zaE t) w'):=fun W hb=>zjP w0 fb X x (zaE t) W (h.call hb) (by omega);clear h hl ht hps;go_enter func303,ntmps303
 go_wp2_with fail
 refine K1.out.mono ?_;rintro e w1 ⟨rfl,hb⟩
 go_wp2_with fail
 refine (K2.out _ hb).mono ?_;rintro e w2 ⟨rfl,hP⟩;go_wp2;go_end0;exact ⟨rfl,hP⟩
theorem zbl {f:Nat} {xs:Array Value} {s P:ByteArray} (h:C D f xs w fun e w'=>e=E (G s)∧H w.heap.size w w') (hP:P=s):C D f xs w fun e w'=>e=E (G P)∧H w.heap.size w w':=by rw [hP];exact h
def Ix (t:Nat):Prop:=t<12∧(zaE t).size≤10
theorem zqk {t:Nat} {X:En} {v:Value} {y:ByteArray} (h:Ix t) (he:zdA eF X t=y) (hv:v=F I ((t+1:Nat):Int)) (hp:Ps w fb X y W):∃ k:Nat,k≤11∧v=F I ((k+1:Nat):Int)∧Ps w fb X (zdA eF X k) W:=⟨t,by have:=h.1;omega,hv,by rw [he];exact hp⟩
theorem zsI {t:Nat} {X:En} (i:Ix t) (h:Ps w fb X x W) (hl:x.size≤10000):C D 303 #[F I t,z (g ⟨w.heap.size+1,0,j⟩)] W fun e w'=>e=E (O #[])∧Ps w fb X (x++zaE t) w':=zqj w fb X x t W h hl i.1
theorem zmO {X:En} {k:Nat} (ok:X.Ok) (fw:zfY X) (hk:k<11):∃ x P,x=zdA eF X k∧P=fP (k+1) X∧P.size≤74∧Ix (k+1)∧(P.size=0→zdA eF X (k+1)=x)∧(P.size≠0→zdA eF X (k+1)=x++zaE (k+1)++P) :=
 ⟨_,_,rfl,rfl,zem ok fw (k+1),⟨by omega,zbD (k+1) (by omega)⟩,zrB k,zpu k⟩
theorem zgZ (fb:Nat) (X:En) (w:A) (ok:X.Ok) (fw:zfY X) (hF:znV fb w) :
 C D 283 #[Q (g ⟨fb,0,j⟩) 12 12,ev X] w fun e w'=>e=E (G (sbE X))∧H w.heap.size w w':=by
 have hmf:=zmL;obtain ⟨W0,hW0⟩:∃ W0,W0=(w.alloc (M (ec X) 69)).alloc (M #[z j,Q j 0 0] 151):=⟨_,rfl⟩
 have P0:Ps w fb X (zdA eF X 0) W0:=by
  have hb:H w.heap.size w W0:=by rw [hW0];exact zba.alloc (by simp) _
  have k0:W0.heap[w.heap.size]?=g (M (ec X) 69 (0,0)):=by
   rw [hW0];exact (ztQ _ _ _ (by simp)).trans (ztJ w _)
  have k1:W0.heap[w.heap.size+1]?=g (M #[z j,Q j 0 0] 151 (0,0)):=by
   have h:=ztJ (w.alloc (M (ec X) 69)) (M #[z j,Q j 0 0] 151);rw [show (w.alloc (M (ec X) 69)).heap.size=w.heap.size+1 by simp] at h;rw [hW0];exact h
  refine ⟨.inl ⟨ztI _,_,k1,zuF _ _ _ _,by simp [Value.ownBlock]⟩,hb,k0,hF.on (zdc.below hb)⟩
 have HW:=zh hW0;have HP0:=zh P0;have HOK:=zh ok;have HFW:=zh fw;obtain ⟨b1,b2,b3,b4,b5,b6,b7,b8,b9,b10,b11⟩:=zg1 ok fw;clear hW0 P0 ok fw hF;go_enter func283,ntmps283
 go_wp2_with fail
 rw [←HW.out];clear HW hmf
 go_loopw [7] (fun i wr=>∃ k:Nat,k≤11∧i=F I ((k+1:Nat):Int)∧Ps w fb X (zdA eF X k) wr) (fun i _=>12-(R i).toNat)
 case atStart=>exact ⟨0,ztO _,rfl,HP0.out⟩
 case round =>
  obtain ⟨k,hk,rfl,hr⟩:=hrel;clear HP0;have hsz:=zgY HOK.out HFW.out k hk
  by_cases hlt:k<11
  ·have h11:k=0∨k=1∨k=2∨k=3∨k=4∨k=5∨k=6∨k=7∨k=8∨k=9∨k=10:=by omega
   obtain ⟨v,hblk,g1,g2,g3,g4,g5,g6,g7,g8,g9,g10,g11⟩:=hr.fl;rcases h11 with rfl|rfl|rfl|rfl|rfl|rfl|rfl|rfl|rfl|rfl|rfl;obtain ⟨a,n,p,r,_,hv1,hv2,ha0,hn0,hp0,hr0⟩:=id g1;have hf:wr.cell? ⟨fb,2,j⟩=g _:=(zcr wr fb 2 _ 354 (0,0) hblk).trans (congrArg g hv1);obtain ⟨m,hm⟩:=ztW b1.1;have hK:=zpj w.heap.size a n p m wr (by rw [←hm];exact hr.cell 2) (zcr wr a 0 _ _ (0,0) ha0) (zcr wr n 0 _ _ (0,0) hn0) (zcr wr p 0 _ _ (0,0) hp0) (by omega);rw [←hm] at hK;clear hm;obtain ⟨x,P,hx,hP,hle,hpl,HS0,HS1⟩:=zmO (k:=0) HOK.out HFW.out (by decide);have HK:=zh (zbl hK hP);rw [←hx] at hr hsz
   rotate_left
   obtain ⟨a,n,p,r,_,hv1,hv2,ha0,hn0,hp0,hr0⟩:=id g2;have hf:wr.cell? ⟨fb,4,j⟩=g _:=(zcr wr fb 4 _ 354 (0,0) hblk).trans (congrArg g hv1);obtain ⟨m,hm⟩:=ztW b2.1;have hK:=zpk w.heap.size a n p m wr (by rw [←hm];exact hr.cell 0) (zcr wr a 0 _ _ (0,0) ha0) (zcr wr n 0 _ _ (0,0) hn0) (zcr wr p 0 _ _ (0,0) hp0) (by omega);rw [←hm] at hK;clear hm;obtain ⟨x,P,hx,hP,hle,hpl,HS0,HS1⟩:=zmO (k:=1) HOK.out HFW.out (by decide);have HK:=zh (zbl hK hP);rw [←hx] at hr hsz
   rotate_left
   obtain ⟨a,n,p,r,_,hv1,hv2,ha0,hn0,hp0,hr0⟩:=id g3;have hf:wr.cell? ⟨fb,6,j⟩=g _:=(zcr wr fb 6 _ 354 (0,0) hblk).trans (congrArg g hv1);obtain ⟨m,hm⟩:=ztW b3.1;have hK:=zpl w.heap.size a n p m wr (by rw [←hm];exact hr.cell 1) (zcr wr a 0 _ _ (0,0) ha0) (zcr wr n 0 _ _ (0,0) hn0) (zcr wr p 0 _ _ (0,0) hp0) (by omega);rw [←hm] at hK;clear hm;obtain ⟨x,P,hx,hP,hle,hpl,HS0,HS1⟩:=zmO (k:=2) HOK.out HFW.out (by decide);have HK:=zh (zbl hK hP);rw [←hx] at hr hsz
   rotate_left
   obtain ⟨a,n,p,r,_,hv1,hv2,ha0,hn0,hp0,hr0⟩:=id g4;have hf:wr.cell? ⟨fb,8,j⟩=g _:=(zcr wr fb 8 _ 354 (0,0) hblk).trans (congrArg g hv1);obtain ⟨m,hm⟩:=ztW b4.1;have hK:=zpm w.heap.size a n p m wr (by rw [←hm];exact hr.cell 3) (zcr wr a 0 _ _ (0,0) ha0) (zcr wr n 0 _ _ (0,0) hn0) (zcr wr p 0 _ _ (0,0) hp0) (by omega);rw [←hm] at hK;clear hm;obtain ⟨x,P,hx,hP,hle,hpl,HS0,HS1⟩:=zmO (k:=3) HOK.out HFW.out (by decide);have HK:=zh (zbl hK hP);rw [←hx] at hr hsz
   rotate_left
   obtain ⟨a,n,p,r,_,hv1,hv2,ha0,hn0,hp0,hr0⟩:=id g5;have hf:wr.cell? ⟨fb,10,j⟩=g _:=(zcr wr fb 10 _ 354 (0,0) hblk).trans (congrArg g hv1);obtain ⟨m,hm⟩:=ztW b5.1;have hK:=zpn w.heap.size a n p m wr (by rw [←hm];exact hr.cell 4) (zcr wr a 0 _ _ (0,0) ha0) (zcr wr n 0 _ _ (0,0) hn0) (zcr wr p 0 _ _ (0,0) hp0) (by omega);rw [←hm] at hK;clear hm;obtain ⟨x,P,hx,hP,hle,hpl,HS0,HS1⟩:=zmO (k:=4) HOK.out HFW.out (by decide);have HK:=zh (zbl hK hP);rw [←hx] at hr hsz
   rotate_left
   obtain ⟨a,n,p,r,_,hv1,hv2,ha0,hn0,hp0,hr0⟩:=id g6;have hf:wr.cell? ⟨fb,12,j⟩=g _:=(zcr wr fb 12 _ 354 (0,0) hblk).trans (congrArg g hv1);obtain ⟨m,hm⟩:=ztW b6.1;have hK:=zpo w.heap.size a n p m wr (by rw [←hm];exact hr.cell 5) (zcr wr a 0 _ _ (0,0) ha0) (zcr wr n 0 _ _ (0,0) hn0) (zcr wr p 0 _ _ (0,0) hp0) (by omega);rw [←hm] at hK;clear hm;obtain ⟨x,P,hx,hP,hle,hpl,HS0,HS1⟩:=zmO (k:=5) HOK.out HFW.out (by decide);have HK:=zh (zbl hK hP);rw [←hx] at hr hsz
   rotate_left
   obtain ⟨a,n,p,r,_,hv1,hv2,ha0,hn0,hp0,hr0⟩:=id g7;have hf:wr.cell? ⟨fb,14,j⟩=g _:=(zcr wr fb 14 _ 354 (0,0) hblk).trans (congrArg g hv1);obtain ⟨m,hm⟩:=ztW b7.1;have hK:=zpp w.heap.size a n p m wr (by rw [←hm];exact hr.cell 6) (zcr wr a 0 _ _ (0,0) ha0) (zcr wr n 0 _ _ (0,0) hn0) (zcr wr p 0 _ _ (0,0) hp0) (by omega);rw [←hm] at hK;clear hm;obtain ⟨x,P,hx,hP,hle,hpl,HS0,HS1⟩:=zmO (k:=6) HOK.out HFW.out (by decide);have HK:=zh (zbl hK hP);rw [←hx] at hr hsz
   rotate_left
   obtain ⟨a,n,p,r,_,hv1,hv2,ha0,hn0,hp0,hr0⟩:=id g8;have hf:wr.cell? ⟨fb,16,j⟩=g _:=(zcr wr fb 16 _ 354 (0,0) hblk).trans (congrArg g hv1);obtain ⟨m,hm⟩:=ztW b8.1;have hK:=zpq w.heap.size a n p m wr (by rw [←hm];exact hr.cell 7) (zcr wr a 0 _ _ (0,0) ha0) (zcr wr n 0 _ _ (0,0) hn0) (zcr wr p 0 _ _ (0,0) hp0) (by omega);rw [←hm] at hK;clear hm;obtain ⟨x,P,hx,hP,hle,hpl,HS0,HS1⟩:=zmO (k:=7) HOK.out HFW.out (by decide);have HK:=zh (zbl hK hP);rw [←hx] at hr hsz
   rotate_left
   obtain ⟨a,n,p,r,_,hv1,hv2,ha0,hn0,hp0,hr0⟩:=id g9;have hf:wr.cell? ⟨fb,18,j⟩=g _:=(zcr wr fb 18 _ 354 (0,0) hblk).trans (congrArg g hv1);obtain ⟨m,hm⟩:=ztW b9.1;have hK:=zpr w.heap.size a n p m wr (by rw [←hm];exact hr.cell 8) (zcr wr a 0 _ _ (0,0) ha0) (zcr wr n 0 _ _ (0,0) hn0) (zcr wr p 0 _ _ (0,0) hp0) (by omega);rw [←hm] at hK;clear hm;obtain ⟨x,P,hx,hP,hle,hpl,HS0,HS1⟩:=zmO (k:=8) HOK.out HFW.out (by decide);have HK:=zh (zbl hK hP);rw [←hx] at hr hsz
   rotate_left
   obtain ⟨a,n,p,r,_,hv1,hv2,ha0,hn0,hp0,hr0⟩:=id g10;have hf:wr.cell? ⟨fb,20,j⟩=g _:=(zcr wr fb 20 _ 354 (0,0) hblk).trans (congrArg g hv1);have hK:=zmM w.heap.size a n p X.data wr (hr.cell 9) (zcr wr a 0 _ _ (0,0) ha0) (zcr wr n 0 _ _ (0,0) hn0) (zcr wr p 0 _ _ (0,0) hp0) (by omega);obtain ⟨x,P,hx,hP,hle,hpl,HS0,HS1⟩:=zmO (k:=9) HOK.out HFW.out (by decide);have HK:=zh (zbl hK hP);rw [←hx] at hr hsz
   rotate_left
   obtain ⟨a,n,p,r,_,hv1,hv2,ha0,hn0,hp0,hr0⟩:=id g11;have hf:wr.cell? ⟨fb,22,j⟩=g _:=(zcr wr fb 22 _ 354 (0,0) hblk).trans (congrArg g hv1);have hK:=zmN w.heap.size a n p X.old wr (hr.cell 10) (zcr wr a 0 _ _ (0,0) ha0) (zcr wr n 0 _ _ (0,0) hn0) (zcr wr p 0 _ _ (0,0) hp0) (by omega);obtain ⟨x,P,hx,hP,hle,hpl,HS0,HS1⟩:=zmO (k:=10) HOK.out HFW.out (by decide);have HK:=zh (zbl hK hP);rw [←hx] at hr hsz
   rotate_left
   all_goals
    have HR:=zh hr;clear g1 g2 g3 g4 g5 g6 g7 g8 g9 g10 g11 b1 b2 b3 b4 b5 b6 b7 b8 b9 b10 b11 hx hP hK hv1 hv2 ha0 hn0 hp0 hr0 hblk hr
    by_cases hz:P.size=0
    ·have hPe:=(zpw P).1 hz;have HE:=zh (HS0 hz);clear hz HS0 HS1 hle;subst hPe
     go_wp2_with fail
     refine HK.out.mono ?_;rintro e w1 ⟨rfl,hb⟩;go_wp2
     go_roundw
     case rel=>exact zqk hpl HE.out (by go_num) (HR.out.call hb)
     case measure=>simp [R]
    ·have HE:=zh (HS1 hz);have h2:¬ P=ByteArray.empty:=fun e=>hz (by rw [e];rfl)
     have h3:¬ P.toList=[]:=by
      rw [zur];intro e
      have:=congrArg List.length e
      exact hz (by simpa using this)
     have h6:(!P.toList.isEmpty)=true:=by
      cases hq:P.toList with
      | nil=>exact absurd hq h3
      | cons a l=>rfl
     clear hz HS0 HS1
     go_wp2_with fail
     refine HK.out.mono ?_;rintro e w1 ⟨rfl,hb⟩
     go_wp2_with fail
     refine (zsI hpl (HR.out.call hb) (by omega)).mono ?_;rintro e w2 ⟨rfl,h4⟩
     go_wp2_with fail
     refine (zjP w fb X _ P _ h4 (by have:=hpl.2;rw [ztS];omega)).mono ?_;rintro e w3 ⟨rfl,h5⟩;go_wp2
     go_roundw
     case rel=>exact zqk hpl HE.out (by go_num) h5
     case measure=>simp [R]
  ·have hk11:k=11:=by omega
   subst hk11;have hr2:=hr;have K2:=zh (zqj w fb X (zdA eF X 11) 0 wr hr (by omega) (by omega));have hlen:0<(zdA eF X 11++zaE 0).size:=by rw [ztS];have:=zel 0;omega
   have K3:=zh (fun (W:A) (h:Ps w fb X (zdA eF X 11++zaE 0) W)=>(zmS _ _ _ W h.t hlen).mono fun e w' ⟨h1,h2⟩=>And.intro h1 (h.be.trans (h2.mono (Nat.le_succ _))));have HE:Hid (sbE X=zdA eF X 11++zaE 0):=rfl;clear hr hr2 hlen hsz b1 b2 b3 b4 b5 b6 b7 b8 b9 b10 b11 HOK HFW hlt hk
   go_wp2_with fail
   refine K2.out.mono ?_;rintro e w1 ⟨rfl,h4⟩
   go_wp2_with fail
   refine (K3.out _ h4).mono ?_;rintro e w2 ⟨rfl,h5⟩;go_wp2;go_ret;exact ⟨by rw [HE.out];rfl,h5⟩
end
end Go.Proofs.YtidndekacnmihaaGreat
