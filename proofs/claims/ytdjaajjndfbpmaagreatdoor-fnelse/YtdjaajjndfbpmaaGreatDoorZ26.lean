import Derived.Test.YtdjaajjndfbpmaaGreatDoorZ14
set_option linter.unusedVariables false
set_option maxHeartbeats 8000000
set_option linter.unusedSimpArgs false
namespace Go.Proofs.YtdjaajjndfbpmaaGreatDoor.G
open Proofs.Tryz
open Go.RowKit
variable {is js ms:List M3} {base i k:Nat} {x y:M3} {b s:ByteArray} {R S a l q r t:List UInt8}
def La (ms:List M3) (k:Nat):Bool:=W_ (ms.getD k N7)&&(decide (k=0) || Op.bytesLess (ms.getD (k - 1) N7).nm.toList (ms.getD k N7).nm.toList)
def K_ (ms:List M3):Bool:=decide (ms.length<=30)&&(List.range ms.length).all (La ms)
theorem Ee (ms:List M3):K_ ms=true↔ms.length<=30/\∀ k,k<ms.length->La ms k=true:=by simp [K_]
def Db (ms:List M3):List UInt8:=if K_ ms=true/\(ms.flatMap O8).length<=300 then ms.flatMap O8 else []
theorem Zl (h:k<ms.length) (a:La ms k=false):K_ ms=false:=by
 cases hp:K_ ms
 · rfl
 have:=((Ee ms).1 hp).2 k h;rw [a] at this;cases this
theorem Ql (h:k<ms.length) (a:La ms k=false):Db ms=[]:=by
 unfold Db;rw [if_neg (by simp [Zl h a])]
theorem ZC (h:30<ms.length):Db ms=[]:=by
 unfold Db;rw [if_neg (by rw [Ee];omega)]
theorem um (h:W_ x=true):x.nm.size<=20/\x.tl.size<=20/\x.ar.size<=300:=by
 simp [W_,J2] at h;exact ⟨h.1.1.1.2,h.1.2.1.2,O0⟩
theorem Uk (h:s.size<=300):(Q3 (V4 s.data.toList)).size<=902:=by
 have:=Ym s.data.toList;have e:s.data.toList.length=s.size:=X0;rw [J3];omega
theorem step_ok (h:La ms k=true):W_ (ms.getD k N7)=true:=by
 unfold La at h;cases hx:W_ (ms.getD k N7)
 · rw [hx] at h;cases h
 rfl
theorem qG (h:W_ x=true):(O8 x).length<=950:=by
 obtain ⟨h1,h2,h3⟩:=um h;have a:=Uk h3;rw [J3] at a;have c:x.nm.data.toList.length=x.nm.size:=X0;have b:x.tl.data.toList.length=x.tl.size:=X0;simp only [O8,Me,Q7,u_,Mi,c,b];omega
theorem Gs (a:k<ms.length):(ms.take (k+1)).flatMap O8=(ms.take k).flatMap O8++O8 (ms.getD k N7):=by
 have e:ms.getD k N7=ms[k]:=by simp [a]
 rw [Rh a,Uq,e];simp
theorem VC:∀ k,k<=ms.length->(∀ j,j<k->La ms j=true)->((ms.take k).flatMap O8).length<=950*k:=by
 intro k
 induction k with
 | zero=>intro _ _;simp
 | succ k ih=>
  intro hk a;rw [Gs O0,Q7];have:=ih O0 (fun j hj=>a j O0);have:=qG (step_ok (a k O0));omega
theorem dx {a:ByteArray} (h:a=b):Value.string a=.string b:=by rw [h]
theorem BB (l:List UInt8) (x:M3):Q3 l++(⟨#[109,97,107,101,32]⟩:ByteArray)++x.nm++(⟨#[32]⟩:ByteArray)++x.tl++(⟨#[32]⟩:ByteArray)++Q3 (V4 x.ar.data.toList)++(⟨#[10]⟩:ByteArray)=Q3 (l++O8 x):=by
 apply Hd;simp [Q3,O8,Me]
theorem c64 (a:Option Addr) (cap:Nat) (is:List M3) (w:World) (Z:∀ i,(is.getD i N7).le 1048576) (hl:is.length<=1048576) (hat:Ad w a is):
 Calls prog 64 #[.slice a is.length cap] w fun e w'=>e=.returned (.string (Q3 (Db is)))/\Below w.heap.size w w':=by
 obtain ⟨b,m,hc⟩:=Pe hat;have HC:=Q0 hc;clear hc hat;by_cases hbig:30<is.length
 · go_enter func64,ntmps64
   go_wp2;go_ret;exact ⟨ae (by rw [ZC hbig];rfl),F4 _ _⟩
 go_enter func64,ntmps64
 go_wp2_with fail
 go_loopw [3,4] (fun o i wr=>∃ (k:Nat),k<=is.length/\i=.int .i64 k/\o=.string (Q3 ((is.take k).flatMap O8))/\Below w.heap.size w wr/\Hid (∀ j,j<k->La is j=true)) (fun _ i _=>is.length - (intOf i).toNat)
 case atStart=>exact ⟨0,I5 _,rfl,rfl,F4 _ _,fun j h=>absurd h (F5 _)⟩
 obtain ⟨k,hk,rfl,rfl,v,O⟩:=hrel;have hL:(Q3 ((is.take k).flatMap O8)).size<=950*30:=by
  have:=VC k hk O.out;rw [J3];omega
 by_cases t:k<is.length;rotate_left
 · have hp:=(Ee is).2 ⟨O0,fun j hj=>O.out j O0⟩
   have Q:Hid ((is.take k).flatMap O8=is.flatMap O8):=by rw [E_ O0];rfl
   have HV:Hid (Db is=if (is.flatMap O8).length<=300 then is.flatMap O8 else []):=by unfold Db;simp only [hp,true_and];trivial
   clear hp;rw [Q.out] at hL ⊢;generalize is.flatMap O8=l at*;by_cases xR:300<(Q3 l).size
   · go_wp2
     go_ret;exact ⟨ae (by rw [HV.out,R3 (by rw [J3] at xR;omega)];rfl),v⟩
   go_wp2;go_ret;exact ⟨ae (by rw [HV.out,Y3 (by rw [J3] at xR;omega)]),v⟩
 rcases HC.out with hss | ⟨ha,N,L⟩
 · rw [hss] at t;exact absurd t (F5 _)
 subst ha;have R:=Q0 v;have g0:=(v.cell (p:=⟨b,m+k*3,none⟩) N).trans (L k t).1;have g1:=(v.cell (p:=⟨b,m+k*3+1,none⟩) N).trans (L k t).2.1;have g2:=(v.cell (p:=⟨b,m+k*3+2,none⟩) N).trans (L k t).2.2;have J:Hid ((is.getD k N7).le 1048700):=⟨Z4 (Z k).1 O0,Z4 (Z k).2.1 O0,Z4 (Z k).2.2 O0⟩;have Q:=Q0 (Gs t);generalize (is.take k).flatMap O8=l at*;rcases Xg k with h0 | h0
 · subst h0
   have r:Hid (La is 0=W_ (is.getD 0 N7)):=by simp [La,Hid]
   simp only [jk,Nh] at g0 g1 g2;generalize is.getD 0 N7=x at*;clear L v
   go_wp2_with fail
   have I:Hid (Below w.heap.size w (wr.alloc (.cells #[.string x.nm,.string x.tl,.string x.ar] 47))):=R.out.alloc R.out.size _;have F:(wr.alloc (.cells #[.string x.nm,.string x.tl,.string x.ar] 47)).cell? ⟨wr.heap.size,0,none⟩=some (.string x.nm):=X0;have E:(wr.alloc (.cells #[.string x.nm,.string x.tl,.string x.ar] 47)).cell? ⟨wr.heap.size,1,none⟩=some (.string x.tl):=X0;have D:(wr.alloc (.cells #[.string x.nm,.string x.tl,.string x.ar] 47)).cell? ⟨wr.heap.size,2,none⟩=some (.string x.ar):=X0;have f:wr.heap.size<(wr.alloc (.cells #[.string x.nm,.string x.tl,.string x.ar] 47)).heap.size:=X0;clear g0 g1 g2;generalize (wr.alloc (.cells #[.string x.nm,.string x.tl,.string x.ar] 47))=W at*;cases hx:W_ x
   · refine F7 (S:=(fun u=>u.cell? ⟨wr.heap.size,0,none⟩=some (.string x.nm)/\u.cell? ⟨wr.heap.size,1,none⟩=some (.string x.tl)/\u.cell? ⟨wr.heap.size,2,none⟩=some (.string x.ar))) U2 ?_ fun c=>?_
     · ((try dsimp only);go_keep)
     refine I4 0 c ?_;refine rq 1 fun K g=>?_;go_simp;refine (Ju hx _ J.out).mono ?_;rintro e w1 ⟨rfl,s⟩;have d:Hid (Below W.heap.size W w1):=((F4 _ _).drew).trans s;have C:=(d.out.cell (p:=⟨wr.heap.size,0,none⟩) f).trans F;have B:=(d.out.cell (p:=⟨wr.heap.size,1,none⟩) f).trans E;have A:=(d.out.cell (p:=⟨wr.heap.size,2,none⟩) f).trans D
     go_wp2_with fail
     clear c;refine Ls g fun c=>?_;clear g K;refine tq 2 c ?_;refine I4 3 c ?_;refine uq 4 c ?_;refine I8 5 c ?_;refine uq 6 c ?_;refine I8 7 c ?_;refine uq 8 c ?_;refine I8 9 c ?_;refine uq 10 c ?_;refine I8 11 c ?_;refine uq 12 c ?_;refine I8 13 c ?_;refine uq 14 c ?_;refine I8 15 c ?_;refine uq 16 c ?_;refine I4 17 c ?_;refine a_ ?_;have n:=bT I.out d.out;rw [hx] at r;clear c;go_wp2;go_ret;exact ⟨ae (by rw [Ql t r.out];rfl),n⟩
   refine F7 (S:=(fun u=>u.cell? ⟨wr.heap.size,0,none⟩=some (.string x.nm)/\u.cell? ⟨wr.heap.size,1,none⟩=some (.string x.tl)/\u.cell? ⟨wr.heap.size,2,none⟩=some (.string x.ar))) U2 ?_ fun c=>?_
   · ((try dsimp only);go_keep)
   refine I4 0 c ?_;refine rq 1 fun K g=>?_;go_simp;refine (Ju hx _ J.out).mono ?_;rintro e w1 ⟨rfl,s⟩;have d:Hid (Below W.heap.size W w1):=((F4 _ _).drew).trans s;have C:=(d.out.cell (p:=⟨wr.heap.size,0,none⟩) f).trans F;have B:=(d.out.cell (p:=⟨wr.heap.size,1,none⟩) f).trans E;have A:=(d.out.cell (p:=⟨wr.heap.size,2,none⟩) f).trans D
   go_wp2_with fail
   clear c;refine Ls g fun c=>?_;clear g K;refine tq 2 c ?_;refine I4 3 c ?_;refine tq 4 c ?_;refine I4 5 c ?_;refine tq 6 c ?_;refine I8 7 c ?_;refine uq 8 c ?_;refine I8 9 c ?_;refine uq 10 c ?_;refine I8 11 c ?_;refine uq 12 c ?_;refine I8 13 c ?_;refine uq 14 c ?_;refine I8 15 c ?_;refine tq 16 c ?_;refine I4 17 c ?_;refine a_ ?_;have n:=bT I.out d.out;rw [hx] at r;clear c;have hd':Hid (∀ j,j<0+1->La is j=true):=fun j hj=>by
    rcases U5 j 0 with h | h
    · exact O.out j h
    obtain rfl:j=0:=O0;exact r.out
   have H:=D7 f d.out.size;obtain ⟨j1,j2,X⟩:=um hx;have s3:=Uk X;have k0:¬ 9223372036854775807<(Q3 l).size+5:=O0;have k1:¬ 9223372036854775807<(Q3 l).size+5+x.nm.size:=O0;have k2:¬ 9223372036854775807<(Q3 l).size+5+x.nm.size+1:=O0;have k2':¬ 9223372036854775807<=(Q3 l).size+5+x.nm.size:=O0;have k3:¬ 9223372036854775807<(Q3 l).size+5+x.nm.size+1+x.tl.size:=O0;have k4:¬ 9223372036854775807<(Q3 l).size+5+x.nm.size+1+x.tl.size+1:=O0;have k4':¬ 9223372036854775807<=(Q3 l).size+5+x.nm.size+1+x.tl.size:=O0;have k5:¬ 9223372036854775807<(Q3 l).size+5+x.nm.size+1+x.tl.size+1+(Q3 (V4 x.ar.data.toList)).size:=O0;have k6:¬ 9223372036854775807<(Q3 l).size+5+x.nm.size+1+x.tl.size+1+(Q3 (V4 x.ar.data.toList)).size+1:=O0;have k6':¬ 9223372036854775807<=(Q3 l).size+5+x.nm.size+1+x.tl.size+1+(Q3 (V4 x.ar.data.toList)).size:=O0;have Y:x.ar.size<=1048700:=O0
   go_wp2_with fail
   go_region_held3 (fun u=>u.cell? ⟨wr.heap.size,0,none⟩=some (.string x.nm)/\u.cell? ⟨wr.heap.size,1,none⟩=some (.string x.tl)/\u.cell? ⟨wr.heap.size,2,none⟩=some (.string x.ar)) (go_keep) (first | (go_at_call 99;refine (TF x.ar _ Y).mono ?_;rintro e U ⟨rfl,z⟩;have HB2:Hid (Below w.heap.size w U):=n.trans (((F4 _ _).drew.trans z).mono n.size);have e0:=(z.cell (p:=⟨wr.heap.size,0,none⟩) (by simpa using H)).trans C;have e1:=(z.cell (p:=⟨wr.heap.size,1,none⟩) (by simpa using H)).trans B;have e2:=(z.cell (p:=⟨wr.heap.size,2,none⟩) (by simpa using H)).trans A))
   all_goals go_wp2
   all_goals go_roundw
   all_goals first
    | exact ⟨0+1,O0,by go_num,dx (by rw [Q.out];exact BB l x),HB2.out,hd'⟩
    | (simp [intOf];omega)
 obtain ⟨q,hq⟩:∃ q,q+1=k:=⟨k - 1,O0⟩;have g3':=(v.cell (p:=⟨b,m+q*3,none⟩) N).trans (L q O0).1;have a0L:=D7 N v.size;have r:Hid (La is k=(W_ (is.getD k N7)&&Op.bytesLess (is.getD q N7).nm.toList (is.getD k N7).nm.toList)):=by
  have e1:decide (k=0)=false:=Oh O0;have e2:k - 1=q:=O0;unfold La;rw [e1,e2];rfl
 have hm0:(0:Int)<(k:Int):=O0;have hm1:=Xm hm0;generalize is.getD k N7=x at*;generalize is.getD q N7=y at*;have hwr:IntKind.i64.wrap ((k:Int) - 1)=(q:Int):=by rw [show (k:Int) - 1=(q:Int) by omega];exact Jl q O0
 have zT:(q:Int)<(is.length:Int):=O0;clear hq;clear L v
 go_wp2_with fail
 have I:Hid (Below w.heap.size w (wr.alloc (.cells #[.string x.nm,.string x.tl,.string x.ar] 47))):=R.out.alloc R.out.size _;have F:(wr.alloc (.cells #[.string x.nm,.string x.tl,.string x.ar] 47)).cell? ⟨wr.heap.size,0,none⟩=some (.string x.nm):=X0;have E:(wr.alloc (.cells #[.string x.nm,.string x.tl,.string x.ar] 47)).cell? ⟨wr.heap.size,1,none⟩=some (.string x.tl):=X0;have D:(wr.alloc (.cells #[.string x.nm,.string x.tl,.string x.ar] 47)).cell? ⟨wr.heap.size,2,none⟩=some (.string x.ar):=X0;have f:wr.heap.size<(wr.alloc (.cells #[.string x.nm,.string x.tl,.string x.ar] 47)).heap.size:=X0;have P:=jw a0L f;have g3:(wr.alloc (.cells #[.string x.nm,.string x.tl,.string x.ar] 47)).cell? ⟨b,m+q*3,none⟩=some (.string y.nm):=(Sn _ _ ⟨b,m+q*3,none⟩ a0L).trans g3';clear g3';clear g0 g1 g2;generalize (wr.alloc (.cells #[.string x.nm,.string x.tl,.string x.ar] 47))=W at*;cases hx:W_ x
 · cases hy:Op.bytesLess y.nm.toList x.nm.toList
   · refine F7 (S:=(fun u=>u.cell? ⟨wr.heap.size,0,none⟩=some (.string x.nm)/\u.cell? ⟨wr.heap.size,1,none⟩=some (.string x.tl)/\u.cell? ⟨wr.heap.size,2,none⟩=some (.string x.ar)/\u.cell? ⟨b,m+q*3,none⟩=some (.string y.nm))) U2 ?_ fun c=>?_
     · ((try dsimp only);go_keep)
     refine I4 0 c ?_;refine rq 1 fun K g=>?_;go_simp;refine (Ju hx _ J.out).mono ?_;rintro e w1 ⟨rfl,s⟩;have d:Hid (Below W.heap.size W w1):=((F4 _ _).drew).trans s;have C:=(d.out.cell (p:=⟨wr.heap.size,0,none⟩) f).trans F;have B:=(d.out.cell (p:=⟨wr.heap.size,1,none⟩) f).trans E;have A:=(d.out.cell (p:=⟨wr.heap.size,2,none⟩) f).trans D;have V:=(d.out.cell (p:=⟨b,m+q*3,none⟩) P).trans g3
     go_wp2_with fail
     clear c;refine Ls g fun c=>?_;clear g K;refine tq 2 c ?_;refine I4 3 c ?_;refine uq 4 c ?_;refine I8 5 c ?_;refine uq 6 c ?_;refine I8 7 c ?_;refine uq 8 c ?_;refine I8 9 c ?_;refine uq 10 c ?_;refine I8 11 c ?_;refine uq 12 c ?_;refine I8 13 c ?_;refine uq 14 c ?_;refine I8 15 c ?_;refine uq 16 c ?_;refine I4 17 c ?_;refine a_ ?_;have n:=bT I.out d.out;rw [hx,hy] at r;clear c;go_wp2;go_ret;exact ⟨ae (by rw [Ql t r.out];rfl),n⟩
   refine F7 (S:=(fun u=>u.cell? ⟨wr.heap.size,0,none⟩=some (.string x.nm)/\u.cell? ⟨wr.heap.size,1,none⟩=some (.string x.tl)/\u.cell? ⟨wr.heap.size,2,none⟩=some (.string x.ar)/\u.cell? ⟨b,m+q*3,none⟩=some (.string y.nm))) U2 ?_ fun c=>?_
   · ((try dsimp only);go_keep)
   refine I4 0 c ?_;refine rq 1 fun K g=>?_;go_simp;refine (Ju hx _ J.out).mono ?_;rintro e w1 ⟨rfl,s⟩;have d:Hid (Below W.heap.size W w1):=((F4 _ _).drew).trans s;have C:=(d.out.cell (p:=⟨wr.heap.size,0,none⟩) f).trans F;have B:=(d.out.cell (p:=⟨wr.heap.size,1,none⟩) f).trans E;have A:=(d.out.cell (p:=⟨wr.heap.size,2,none⟩) f).trans D;have V:=(d.out.cell (p:=⟨b,m+q*3,none⟩) P).trans g3
   go_wp2_with fail
   clear c;refine Ls g fun c=>?_;clear g K;refine tq 2 c ?_;refine I4 3 c ?_;refine uq 4 c ?_;refine I8 5 c ?_;refine uq 6 c ?_;refine I8 7 c ?_;refine uq 8 c ?_;refine I8 9 c ?_;refine uq 10 c ?_;refine I8 11 c ?_;refine uq 12 c ?_;refine I8 13 c ?_;refine uq 14 c ?_;refine I8 15 c ?_;refine uq 16 c ?_;refine I4 17 c ?_;refine a_ ?_;have n:=bT I.out d.out;rw [hx,hy] at r;clear c;go_wp2;go_ret;exact ⟨ae (by rw [Ql t r.out];rfl),n⟩
 cases hy:Op.bytesLess y.nm.toList x.nm.toList
 · refine F7 (S:=(fun u=>u.cell? ⟨wr.heap.size,0,none⟩=some (.string x.nm)/\u.cell? ⟨wr.heap.size,1,none⟩=some (.string x.tl)/\u.cell? ⟨wr.heap.size,2,none⟩=some (.string x.ar)/\u.cell? ⟨b,m+q*3,none⟩=some (.string y.nm))) U2 ?_ fun c=>?_
   · ((try dsimp only);go_keep)
   refine I4 0 c ?_;refine rq 1 fun K g=>?_;go_simp;refine (Ju hx _ J.out).mono ?_;rintro e w1 ⟨rfl,s⟩;have d:Hid (Below W.heap.size W w1):=((F4 _ _).drew).trans s;have C:=(d.out.cell (p:=⟨wr.heap.size,0,none⟩) f).trans F;have B:=(d.out.cell (p:=⟨wr.heap.size,1,none⟩) f).trans E;have A:=(d.out.cell (p:=⟨wr.heap.size,2,none⟩) f).trans D;have V:=(d.out.cell (p:=⟨b,m+q*3,none⟩) P).trans g3
   go_wp2_with fail
   clear c;refine Ls g fun c=>?_;clear g K;refine tq 2 c ?_;refine I4 3 c ?_;refine tq 4 c ?_;refine I4 5 c ?_;refine tq 6 c ?_;refine I4 7 c ?_;refine tq 8 c ?_;refine I4 9 c ?_;refine tq 10 c ?_;refine I4 11 c ?_;refine tq 12 c ?_;refine I4 13 c ?_;refine tq 14 c ?_;refine I4 15 c ?_;refine tq 16 c ?_;refine I4 17 c ?_;refine a_ ?_;have n:=bT I.out d.out;rw [hx,hy] at r;clear c;go_wp2;go_ret;exact ⟨ae (by rw [Ql t r.out];rfl),n⟩
 refine F7 (S:=(fun u=>u.cell? ⟨wr.heap.size,0,none⟩=some (.string x.nm)/\u.cell? ⟨wr.heap.size,1,none⟩=some (.string x.tl)/\u.cell? ⟨wr.heap.size,2,none⟩=some (.string x.ar)/\u.cell? ⟨b,m+q*3,none⟩=some (.string y.nm))) U2 ?_ fun c=>?_
 · ((try dsimp only);go_keep)
 refine I4 0 c ?_;refine rq 1 fun K g=>?_;go_simp;refine (Ju hx _ J.out).mono ?_;rintro e w1 ⟨rfl,s⟩;have d:Hid (Below W.heap.size W w1):=((F4 _ _).drew).trans s;have C:=(d.out.cell (p:=⟨wr.heap.size,0,none⟩) f).trans F;have B:=(d.out.cell (p:=⟨wr.heap.size,1,none⟩) f).trans E;have A:=(d.out.cell (p:=⟨wr.heap.size,2,none⟩) f).trans D;have V:=(d.out.cell (p:=⟨b,m+q*3,none⟩) P).trans g3
 go_wp2_with fail
 clear c;refine Ls g fun c=>?_;clear g K;refine tq 2 c ?_;refine I4 3 c ?_;refine tq 4 c ?_;refine I4 5 c ?_;refine tq 6 c ?_;refine I4 7 c ?_;refine tq 8 c ?_;refine I4 9 c ?_;refine tq 10 c ?_;refine I4 11 c ?_;refine tq 12 c ?_;refine I4 13 c ?_;refine tq 14 c ?_;refine I4 15 c ?_;refine tq 16 c ?_;refine I4 17 c ?_;refine a_ ?_;have n:=bT I.out d.out;rw [hx,hy] at r;clear c;have hd':Hid (∀ j,j<k+1->La is j=true):=fun j hj=>by
  rcases U5 j k with h | h
  · exact O.out j h
  obtain rfl:j=k:=O0;exact r.out
 have H:=D7 f d.out.size;obtain ⟨j1,j2,X⟩:=um hx;have s3:=Uk X;have k0:¬ 9223372036854775807<(Q3 l).size+5:=O0;have k1:¬ 9223372036854775807<(Q3 l).size+5+x.nm.size:=O0;have k2:¬ 9223372036854775807<(Q3 l).size+5+x.nm.size+1:=O0;have k2':¬ 9223372036854775807<=(Q3 l).size+5+x.nm.size:=O0;have k3:¬ 9223372036854775807<(Q3 l).size+5+x.nm.size+1+x.tl.size:=O0;have k4:¬ 9223372036854775807<(Q3 l).size+5+x.nm.size+1+x.tl.size+1:=O0;have k4':¬ 9223372036854775807<=(Q3 l).size+5+x.nm.size+1+x.tl.size:=O0;have k5:¬ 9223372036854775807<(Q3 l).size+5+x.nm.size+1+x.tl.size+1+(Q3 (V4 x.ar.data.toList)).size:=O0;have k6:¬ 9223372036854775807<(Q3 l).size+5+x.nm.size+1+x.tl.size+1+(Q3 (V4 x.ar.data.toList)).size+1:=O0;have k6':¬ 9223372036854775807<=(Q3 l).size+5+x.nm.size+1+x.tl.size+1+(Q3 (V4 x.ar.data.toList)).size:=O0;have Y:x.ar.size<=1048700:=O0
 go_wp2_with fail
 go_region_held3 (fun u=>u.cell? ⟨wr.heap.size,0,none⟩=some (.string x.nm)/\u.cell? ⟨wr.heap.size,1,none⟩=some (.string x.tl)/\u.cell? ⟨wr.heap.size,2,none⟩=some (.string x.ar)) (go_keep) (first | (go_at_call 99;refine (TF x.ar _ Y).mono ?_;rintro e U ⟨rfl,z⟩;have HB2:Hid (Below w.heap.size w U):=n.trans (((F4 _ _).drew.trans z).mono n.size);have e0:=(z.cell (p:=⟨wr.heap.size,0,none⟩) (by simpa using H)).trans C;have e1:=(z.cell (p:=⟨wr.heap.size,1,none⟩) (by simpa using H)).trans B;have e2:=(z.cell (p:=⟨wr.heap.size,2,none⟩) (by simpa using H)).trans A))
 all_goals go_wp2
 all_goals go_roundw
 all_goals first
  | exact ⟨k+1,O0,by go_num,dx (by rw [Q.out];exact BB l x),HB2.out,hd'⟩
  | (simp [intOf];omega)
theorem QI (l:List UInt8):(Lib.cut l [32]).2.1=I1 l:=by
 unfold Lib.cut;rcases Ip l with ⟨h,a⟩ | ⟨i,h,_,_,h2⟩
 · rw [h,R3 O0,(Og a).2]
 rw [h,Y3 O0];exact h2
theorem IC (l:List UInt8):U6 l (min 3 (l.length+1) - 1)=U6 l 2:=by
 rcases U5 l.length 2 with h | h;rotate_left
 · have:min 3 (l.length+1)=3:=O0
   rw [this]
 cases l with
 | nil=>rw [R_ _ X0,R_ _ X0]
 | cons c r=>
  cases r with
  | cons d r=>simp at h;omega
  | nil=>
   by_cases a:(32:UInt8)∈[c]
   · have e:I1 [c]=[]:=by
      simp only [R9] at a;subst a;rfl
     have b:min 3 ([c].length+1) - 1=0+1:=rfl;rw [b,T_ 0 a,T_ 1 a,e,R_ _ X0,R_ _ X0]
   rw [R_ _ a,R_ _ a]
theorem jC {b:List UInt8} (f:(32:UInt8)∉a) (e:(32:UInt8)∉b) (h:a++32::r=b++32::q):a=b/\r=q:=by
 induction a generalizing b with
 | nil=>
  cases b with
  | nil=>simpa using h
  | cons c b=>simp at h;exact absurd (by rw [h.1];simp) e
 | cons d a ih=>
  cases b with
  | nil=>simp at h;exact absurd (by rw [h.1];simp) f
  | cons c b=>
   simp only [Bc,Ye] at h;obtain ⟨h1,h2⟩:=ih (fun h=>f (Fg _ h)) (fun h=>e (Fg _ h)) h.2;exact ⟨by rw [h.1,h1],h2⟩
theorem Ae (h:J2 l=true):(32:UInt8)∉l/\(10:UInt8)∉l:=by
 simp only [J2,V7,Nf] at h;constructor
 · intro a
   have:=h.2 _ a;revert this;decide
 intro a;have:=h.2 _ a;revert this;decide
theorem Vg (h:W_ x=true):J2 x.nm.data.toList=true/\J2 x.tl.data.toList=true/\(x.ar.size:Int)<=300:=by
 simp only [W_,V7,Q_] at h;exact ⟨h.1.1,h.1.2,h.2⟩
theorem Qd (x:M3):Me x=x.nm.data.toList++32::(x.tl.data.toList++32::V4 x.ar.data.toList):=by simp [Me]
theorem SI (x:M3):Me x≠[]:=by rw [Qd];simp
def Ub (x:M3):List UInt8:=[109,97,107,101]++32::Me x
theorem S9 (x:M3):O8 x=Ub x++[10]:=rfl
theorem Ta (h:W_ x=true):(10:UInt8)∉Ub x:=by
 obtain ⟨h1,h2,_⟩:=Vg h;unfold Ub;rw [Qd];simp only [P8,D_,not_or];refine ⟨K3,K3,(Ae h1).2,K3,(Ae h2).2,K3,Ur _⟩
theorem UC (hx:W_ x=true) (a:W_ y=true) (h:Me x=Me y):x=y:=by
 obtain ⟨e,a2,_⟩:=Vg hx;obtain ⟨b1,b2,_⟩:=Vg a;rw [Qd,Qd] at h;obtain ⟨d,h⟩:=jC (Ae e).1 (Ae b1).1 h;obtain ⟨c,h⟩:=jC (Ae a2).1 (Ae b2).1 h;have b:=Fh h;cases x;cases y;simp only [M3.mk.injEq];exact ⟨Pn d,Pn c,Pn b⟩
theorem Pq (hx:W_ x=true) (a:W_ y=true) (h:Ub x=Ub y):x=y:=by
 unfold Ub at h;exact UC hx a (by simpa using h)
theorem zw (_hy:W_ y=true):l=Ub y↔O1 l=[109,97,107,101]/\I1 l=Me y:=by
 constructor
 · rintro rfl
   exact Y5 K3
 rintro ⟨h1,h2⟩;by_cases a:(32:UInt8)∈l
 · have:=(Y9 a).1
   rw [h1,h2] at this;exact this
 rw [(Og a).2] at h2;exact absurd h2.symm (SI y)
theorem Oq (hx:W_ x=true) (a:W_ y=true) (h:O8 x++r=O8 y++q):x=y/\r=q:=by
 rw [S9,S9,y_,y_] at h;obtain ⟨h1,h2⟩:=Dp (Ta hx) (Ta a) h;exact ⟨Pq hx a h1,h2⟩
theorem Ah (x:M3):O8 x≠[]:=by rw [S9];simp
theorem Ng (b:is.all W_=true) (a:js.all W_=true) (h:is.flatMap O8++R=js.flatMap O8):∃ r,R=r.flatMap O8/\js=is++r:=by
 induction is generalizing js with
 | nil=>exact ⟨js,by simpa using h,rfl⟩
 | cons x is ih=>
  simp only [ni,V7] at b
  cases js with
  | nil=>
   have:=Ah x;simp at h;exact absurd h.1 this
  | cons y js=>
   simp only [ni,V7] at a;simp only [Qe,y_] at h;obtain ⟨rfl,h2⟩:=Oq b.1 a.1 h;obtain ⟨r,c,d⟩:=ih b.2 a.2 h2;exact ⟨r,c,by rw [d];rfl⟩
theorem Qg (d:is.all W_=true) (c:js.all W_=true) (h:is.flatMap O8=js.flatMap O8):is=js:=by
 obtain ⟨r,a,b⟩:=Ng (R:=[]) d c (by simpa using h)
 cases r with
 | nil=>simpa using b.symm
 | cons y r=>
  have:=Ah y;simp at a;exact absurd a.1 this
theorem Ri (is:List M3):is.length<=(is.flatMap O8).length:=by
 induction is with
 | nil=>simp
 | cons x r ih=>
  have:1<=(O8 x).length:=iq.2 (Ah x);simp only [Qe,Q7,u_];omega
theorem Be (h:K_ ms=true):ms.all W_=true:=by
 rw [Nf];intro x hx;obtain ⟨k,a,e⟩:=Lb hx;have:=step_ok (((Ee ms).1 h).2 k a);rw [List.getD,F8 a] at this;rw [<- e];exact this
def U9 (l:List UInt8) (is:List M3) (ok:Bool):Prop:=(ok=true->K_ is=true/\is.flatMap O8=l/\l.length<=300)/\(ok=false->is=[]/\∀ js,K_ js=true->js.flatMap O8=l->300<l.length)
theorem NA {a b:Bool} (h:U9 l is a) (k:U9 l js b):is=js/\a=b:=by
 cases a <;> cases b
 · exact ⟨(h.2 rfl).1.trans (k.2 rfl).1.symm,rfl⟩
 · obtain ⟨d,c,e⟩:=k.1 rfl
   have:=(h.2 rfl).2 js d c;omega
 · obtain ⟨d,c,e⟩:=h.1 rfl
   have:=(k.2 rfl).2 is d c;omega
 obtain ⟨d,c,e⟩:=k.1 rfl;obtain ⟨h1,h2,h3⟩:=h.1 rfl;exact ⟨Qg (Be h1) (Be d) (h2.trans c.symm),rfl⟩
def Way (l:List UInt8) (is:List M3) (r:List UInt8):Prop:=l=is.flatMap O8++r/\is.all W_=true
theorem Jm (l:List UInt8):Way l [] l:=⟨rfl,rfl⟩
theorem Iq (h:Way l is (a++10::r)) (hx:W_ x=true/\a=Ub x):Way l (is++[x]) r:=by
 refine ⟨?_,by rw [Vi,h.2];simp [hx.1]⟩;rw [h.1,Uq,hx.2];simp [S9]
theorem Ej (h:Way l is r) (d:r≠[]) (f:∀ y q,W_ y=true->r≠Ub y++10::q):U9 l [] false:=by
 refine ⟨(fun h=>by cases h),fun _=>⟨rfl,fun js b e=>?_⟩⟩;exfalso;obtain ⟨q,a,g⟩:=Ng h.2 (Be b) (h.1.symm.trans e.symm)
 cases q with
 | nil=>exact d a
 | cons y q=>
  have c:W_ y=true:=by
   have:=(Be b);rw [g,Vi,ni] at this;simp only [V7] at this;exact this.2.1
  apply f y (q.flatMap O8) c;rw [a,Qe,S9,y_];rfl
theorem Ov (h:Way l is []) (c:l.length<=300):(K_ is=true->U9 l is true)/\(K_ is=false->U9 l [] false):=by
 have e:l=is.flatMap O8:=by simpa using h.1
 refine ⟨fun a=>⟨fun _=>⟨a,e.symm,c⟩,(fun h=>by cases h)⟩,fun a=>⟨(fun h=>by cases h),fun _=>⟨rfl,fun js b d=>?_⟩⟩⟩;have:=Qg (Be b) h.2 (d.trans e);rw [this,a] at b;cases b
theorem Tg (h:300<l.length):U9 l [] false:=⟨(fun h=>by cases h),fun _=>⟨rfl,fun _ _ _=>h⟩⟩
theorem sw (h:ms.all W_=true) (a:i<ms.length):W_ (ms.getD i N7)=true:=by
 rw [List.getD,F8 a];exact Nf.1 h _ (Ea a)
theorem kG (h:W_ x=true):x.le 300:=by
 obtain ⟨h1,h2,h3⟩:=um h;exact ⟨O0,O0,h3⟩
theorem Au (h:Way l is r):is.length+r.length<=l.length/\∀ i,(is.getD i N7).le 300:=by
 have h1:=Ri is;have h2:=V3 List.length h.1;rw [Q7] at h2;exact ⟨O0,zo fun i a=>kG (sw h.2 a)⟩
def R5 (is:List M3):List Value:=is.flatMap fun x=>[.string x.nm,.string x.tl,.string x.ar]
theorem Mh (is:List M3) (x:M3):R5 (is++[x])=R5 is++[.string x.nm,.string x.tl,.string x.ar]:=by simp [R5]
theorem Xy (is:List M3) (i:Nat) (h:i<is.length):(R5 is)[i*3]?=some (.string (is.getD i N7).nm)/\(R5 is)[i*3+1]?=some (.string (is.getD i N7).tl)/\(R5 is)[i*3+2]?=some (.string (is.getD i N7).ar):=by
 induction is generalizing i with
 | nil=>simp at h
 | cons x r ih=>
  cases i with
  | zero=>exact ⟨rfl,rfl,rfl⟩
  | succ i=>
   have:=ih i (by simpa using h);have e:∀ j,(R5 (x::r))[(i+1)*3+j]?=(R5 r)[i*3+j]?:=fun j=>by
    show ([Value.string x.nm,.string x.tl,.string x.ar]++R5 r)[(i+1)*3+j]?=_;rw [ji J4]
    congr 1
    simp;omega
   have a:=e 0;simp only [Nh] at a;rw [a,e 1,e 2];exact this
theorem J7 {w:World} {v:Value} (h:w.ownsRow base 47 3 v is.length (R5 is)):∃ a cap,v=.slice a is.length cap/\Ad w a is:=by
 have b:=h;rcases h.2 with ⟨hv,h0⟩ | ⟨g,cap,cur,hv,hg,d,_⟩
 · exact ⟨none,0,by rw [hv,h0],.inl (Ce.1 h0)⟩
 refine ⟨some ⟨g,0,none⟩,cap,hv,?_⟩;subst hv;refine .inr ⟨g,0,rfl,Q4 d,fun i c=>?_⟩;obtain ⟨j,f,e⟩:=Xy is i c;rw [R7,b.cellAt _ O0,b.cellAt _ O0,b.cellAt _ O0];exact ⟨j,f,e⟩
theorem Gn (js:List M3) (a:js.all W_=true) (o:List (List UInt8)):(js.flatMap O8).foldl (cst 10) (o,[])=(o++js.map Ub,[]):=by
 induction js generalizing o with
 | nil=>simp
 | cons x r ih=>
  simp only [ni,V7] at a;rw [Qe,Ev,S9,Dw _ _ (Ta a.1)];simp only [Ba];rw [ih a.2];simp
theorem Mg (js:List M3) (a:js.all W_=true):E8 10 (js.flatMap O8)=js.map Ub++[[]]:=by
 unfold E8 M5;rw [Gn js a];simp
def ug (l:List UInt8) (x:M3):Prop:=∀ y,W_ y=true->l=Ub y->x=y
theorem parsed (f:∀ q,Ka l 3=V4 q->t=q):ug l ⟨Q3 (O1 (Ka l 1)),Q3 (O1 (Ka l 2)),Q3 t⟩:=by
 intro y c e;obtain ⟨h1,h2,_⟩:=Vg c;have r1:Ka l 1=Me y:=((zw c).1 e).2;rw [Qd] at r1;have w1:=Y5 (r:=y.tl.data.toList++32::V4 y.ar.data.toList) (Ae h1).1;have b:Ka l 2=y.tl.data.toList++32::V4 y.ar.data.toList:=by show I1 (Ka l 1)=_;rw [r1];exact w1.2
 have a:=Y5 (r:=V4 y.ar.data.toList) (Ae h2).1;have d:Ka l 3=V4 y.ar.data.toList:=by show I1 (Ka l 2)=_;rw [b];exact a.2
 have:=f _ d;subst this;rw [r1,b,w1.1,a.1];rfl
def Di (S:List UInt8) (is:List M3) (k:Nat):Prop:=∀ js:List M3,js.all W_=true->js.flatMap O8=S->is=js.take k
theorem Ni (S:List UInt8):Di S [] 0:=fun _ _ _=>rfl
theorem Vd (h:Di S is k) (d:k+1<(E8 10 S).length) (b:ug ((E8 10 S).getD k []) x):Di S (is++[x]) (k+1):=by
 intro js c e;have h1:=h js c e;have f:=Mg js c;rw [e] at f;rw [f] at d b;simp only [Q7,qc,u_,Mi] at d;have a:k<js.length:=O0;have i:(js.map Ub++[[]]).getD k []=Ub js[k]:=by
  simp only [List.getD,Eb (show k<(js.map Ub).length by simpa using a),Kb,F8 a];rfl
 rw [i] at b;have g:=(Nf.1 c) _ (Ea a);rw [h1,b js[k] g rfl,<- Rh a]
theorem Qm (h:Di S is k) (hkl:is.length=k) (b:k+1=(E8 10 S).length) (f:S.length<=300):(Db is=S->U9 S is true)/\(Db is≠S->U9 S [] false):=by
 constructor
 · intro h2
   unfold Db at h2;by_cases a:K_ is=true/\(is.flatMap O8).length<=300
   · rw [Y3 a] at h2
     exact ⟨fun _=>⟨a.1,h2,f⟩,(fun h=>by cases h)⟩
   rw [R3 a] at h2;subst h2;have:k=0:=by simpa [E8,M5] using b
   have:is=[]:=Ce.1 O0;subst this;exact absurd ⟨rfl,X0⟩ a
 intro g;refine ⟨(fun h=>by cases h),fun _=>⟨rfl,fun js c e=>?_⟩⟩;exfalso;apply g;have d:=Be c;have h1:=h js d e;have a:=Mg js d;rw [e] at a;rw [a] at b;simp only [Q7,qc,u_,Mi] at b;rw [E_ O0] at h1;subst h1;unfold Db;rw [Y3 ⟨c,by rw [e];exact f⟩,e]
def uw (l:List UInt8) (x:M3) (ok:Bool):Prop:=(ok=true->W_ x=true/\l=Me x)/\(ok=false->∀ y,W_ y=true->l≠Me y)
theorem kE (h:∀ y,W_ y=true->l≠Me y):uw l x false:=⟨(fun h=>by cases h),fun _=>h⟩
theorem qo (b:W_ y=true) (h:l=Me y):((32:UInt8)∈l/\(32:UInt8)∈I1 l)/\O1 l=y.nm.data.toList/\O1 (I1 l)=y.tl.data.toList/\I1 (I1 l)=V4 y.ar.data.toList:=by
 obtain ⟨h1,h2,_⟩:=Vg b;rw [Qd] at h;have w1:=Y5 (r:=y.tl.data.toList++32::V4 y.ar.data.toList) (Ae h1).1;have a:=Y5 (r:=V4 y.ar.data.toList) (Ae h2).1;rw [h,w1.1,w1.2,a.1,a.2];exact ⟨⟨X0,X0⟩,rfl,rfl,rfl⟩
theorem Xw {ok:Bool} (g:(32:UInt8)∈l) (f:(32:UInt8)∈I1 l) (a:(ok=true->I1 (I1 l)=V4 t)/\(ok=false->∀ q,I1 (I1 l)≠V4 q)):
 (ok=true->W_ ⟨Q3 (O1 l),Q3 (O1 (I1 l)),Q3 t⟩=true->uw l ⟨Q3 (O1 l),Q3 (O1 (I1 l)),Q3 t⟩ true)/\(¬ (ok=true/\W_ ⟨Q3 (O1 l),Q3 (O1 (I1 l)),Q3 t⟩=true)->∀ y,W_ y=true->l≠Me y):=by
 constructor
 · intro h1 h2
   refine ⟨fun _=>⟨h2,?_⟩,(fun h=>by cases h)⟩;rw [Qd];show l=O1 l++32::(O1 (I1 l)++32::V4 t);rw [<- a.1 h1,<- (Y9 f).1,<- (Y9 g).1]
 intro d y b e;obtain ⟨_,j,i,c⟩:=qo b e;apply d;cases ok
 · exact absurd c (a.2 rfl _)
 refine ⟨rfl,?_⟩;have:t=y.ar.data.toList:=Fh ((a.1 rfl).symm.trans c);rw [this,j,i];exact b
def vN (is:List M3) (e:Ending):Prop:=
 (K_ is=true/\e=.returned .nilIface)\/(K_ is=false/\∃ n ty va,e=.returned (.iface 160 (.agg #[.int .i64 n,.iface ty va])))
theorem c130 (a:Option Addr) (cap:Nat) (is:List M3) (w:World) (t:∀ i,(is.getD i N7).le 1048576) (hl:is.length<=1048576) (I:Ad w a is) (O t1 N:TypeId) (L v1 v2:Value) (C:w.cell? ⟨6,0,none⟩=some (.iface O L)) (J:w.cell? ⟨7,0,none⟩=some (.iface t1 v1)) (B:w.cell? ⟨8,0,none⟩=some (.iface N v2)):
 Calls prog 130 #[.slice a is.length cap] w fun e w'=>vN is e/\Below w.heap.size w w':=by
 have h3z:8<w.heap.size:=by
  rcases U5 8 w.heap.size with h | h
  · exact h
  simp [World.cell?,Yj h] at B
 obtain ⟨b,l,H⟩:=Pe I;have HC:=Q0 H;clear H I;go_enter func130,ntmps130
 go_wp2_with fail
 go_loopw [7] (fun i wr=>∃ (k:Nat),k<=is.length/\k<=30/\i=.int .i64 k/\Below w.heap.size w wr/\Hid (∀ j,j<k->La is j=true)) (fun i _=>is.length - (intOf i).toNat)
 case atStart=>exact ⟨0,I5 _,I5 _,rfl,F4 _ _,fun j h=>absurd h (F5 _)⟩
 obtain ⟨k,hk,a4o,rfl,g,z⟩:=hrel;by_cases m:k<is.length;rotate_left
 · have v:Hid (∀ _:is.length<=30,K_ is=true):=fun h=>(Ee is).2 ⟨h,fun j F=>z.out j O0⟩
   have Z:Hid (is.length<=30):=by show is.length<=30;omega
   go_wp2;go_ret;exact ⟨.inl ⟨v.out Z.out,rfl⟩,g⟩
 rcases HC.out with U | ⟨Y,s,r⟩
 · rw [U] at m;exact absurd m (F5 _)
 subst Y;have o:=Q0 g;have g0:=(g.cell (p:=⟨b,l+k*3,none⟩) s).trans (r k m).1;have g1:=(g.cell (p:=⟨b,l+k*3+1,none⟩) s).trans (r k m).2.1;have g2:=(g.cell (p:=⟨b,l+k*3+2,none⟩) s).trans (r k m).2.2;have E:Hid ((is.getD k N7).le 1048700):=⟨Z4 (t k).1 O0,Z4 (t k).2.1 O0,Z4 (t k).2.2 O0⟩;have X:=D7 s g.size;by_cases h30:k=30
 · have HN:Hid (K_ is=false):=by
    cases v:K_ is
    · rfl
    have:=((Ee is).1 v).1;omega
   subst h30;have D:=(Sn wr (.cells #[.string (is.getD 30 N7).nm,.string (is.getD 30 N7).tl,.string (is.getD 30 N7).ar] 47) ⟨6,0,none⟩ (D7 (by show 6<w.heap.size;omega) g.size)).trans ((g.cell (p:=⟨6,0,none⟩) (by show 6<w.heap.size;omega)).trans C);clear r;generalize is.getD 30 N7=x at*;go_wp2;go_ret;exact ⟨.inr ⟨HN.out,_,_,_,rfl⟩,o.out.alloc o.out.size _⟩
 rcases Xg k with h0 | h0
 · subst h0
   have d:Hid (La is 0=W_ (is.getD 0 N7)):=by simp [La,Hid]
   simp only [jk,Nh] at g0 g1 g2;generalize is.getD 0 N7=x at*;clear r g
   go_wp2_with fail
   refine (c157 x _ E.out).mono ?_;rintro e w1 ⟨rfl,n⟩;have f:=Q0 ((o.out.alloc o.out.size _).trans (n.mono (by simp;exact Nat.le_succ_of_le o.out.size)));have R:=(n.cell (p:=⟨wr.heap.size,0,none⟩) X0).trans (show (wr.alloc (.cells #[.string x.nm,.string x.tl,.string x.ar] 47)).cell? ⟨wr.heap.size,0,none⟩=some (.string x.nm) by simp);have D:=(f.out.cell (p:=⟨6,0,none⟩) (by show 6<w.heap.size;omega)).trans C;have Q:=(f.out.cell (p:=⟨7,0,none⟩) (by show 7<w.heap.size;omega)).trans J;have P:=(f.out.cell (p:=⟨8,0,none⟩) (by show 8<w.heap.size;omega)).trans B;clear n g0 g1 g2;cases hx:W_ x
   · rw [hx] at d
     go_wp2;go_ret;exact ⟨.inr ⟨Zl m d.out,_,_,_,rfl⟩,f.out⟩
   go_wp2_with fail
   refine F7 (S:=(fun u=>u.cell? ⟨wr.heap.size,0,none⟩=some (.string x.nm))) U2 ?_ fun c=>?_
   · ((try dsimp only);go_keep)
   refine tq 0 c ?_;refine I4 1 c ?_;refine tq 2 c ?_;refine I8 3 c ?_;refine uq 4 c ?_;refine I8 5 c ?_;refine uq 6 c ?_;refine I8 7 c ?_;refine uq 8 c ?_;refine I8 9 c ?_;refine uq 10 c ?_;refine I8 11 c ?_;refine tq 12 c ?_;refine I4 13 c ?_;refine a_ ?_;rw [hx] at d;clear c;have A:Hid (∀ j,j<0+1->La is j=true):=fun j F=>by
    rcases U5 j 0 with h | h
    · exact z.out j h
    obtain rfl:j=0:=O0;exact d.out
   go_wp2;go_roundw
   case rel=>exact ⟨0+1,O0,O0,by go_num,f.out.drew,A⟩
   case measure=>simp [intOf];omega
 obtain ⟨q,V⟩:∃ q,q+1=k:=⟨k - 1,O0⟩;have K:=(g.cell (p:=⟨b,l+q*3,none⟩) s).trans (r q O0).1;have d:Hid (La is k=(W_ (is.getD k N7)&&Op.bytesLess (is.getD q N7).nm.toList (is.getD k N7).nm.toList)):=by
  have e1:decide (k=0)=false:=Oh O0;have e2:k - 1=q:=O0;unfold La;rw [e1,e2];rfl
 have W:(0:Int)<(k:Int):=O0;have hm1:=Xm W;generalize is.getD k N7=x at*;generalize is.getD q N7=y at*;have hwr:IntKind.i64.wrap ((k:Int) - 1)=(q:Int):=by rw [show (k:Int) - 1=(q:Int) by omega];exact Jl q O0
 have zT:(q:Int)<(is.length:Int):=O0;clear V;clear r g
 go_wp2_with fail
 refine (c157 x _ E.out).mono ?_;rintro e w1 ⟨rfl,n⟩;have f:=Q0 ((o.out.alloc o.out.size _).trans (n.mono (by simp;exact Nat.le_succ_of_le o.out.size)));have R:=(n.cell (p:=⟨wr.heap.size,0,none⟩) X0).trans (show (wr.alloc (.cells #[.string x.nm,.string x.tl,.string x.ar] 47)).cell? ⟨wr.heap.size,0,none⟩=some (.string x.nm) by simp);have g3:=(n.cell (p:=⟨b,l+q*3,none⟩) J4).trans ((Sn _ _ ⟨b,l+q*3,none⟩ X).trans K);clear K;have D:=(f.out.cell (p:=⟨6,0,none⟩) (by show 6<w.heap.size;omega)).trans C;have Q:=(f.out.cell (p:=⟨7,0,none⟩) (by show 7<w.heap.size;omega)).trans J;have P:=(f.out.cell (p:=⟨8,0,none⟩) (by show 8<w.heap.size;omega)).trans B;clear n g0 g1 g2;cases hx:W_ x
 · have d:Hid (La is k=false):=by rw [d.out,hx];rfl
   go_wp2;go_ret;exact ⟨.inr ⟨Zl m d.out,_,_,_,rfl⟩,f.out⟩
 cases hy:Op.bytesLess y.nm.toList x.nm.toList
 · go_wp2_with fail
   refine F7 (S:=(fun u=>u.cell? ⟨wr.heap.size,0,none⟩=some (.string x.nm)/\u.cell? ⟨b,l+q*3,none⟩=some (.string y.nm))) U2 ?_ fun c=>?_
   · ((try dsimp only);go_keep)
   refine tq 0 c ?_;refine I4 1 c ?_;refine tq 2 c ?_;refine I4 3 c ?_;refine tq 4 c ?_;refine I4 5 c ?_;refine tq 6 c ?_;refine I4 7 c ?_;refine tq 8 c ?_;refine I4 9 c ?_;refine tq 10 c ?_;refine I4 11 c ?_;refine tq 12 c ?_;refine I4 13 c ?_;refine a_ ?_;rw [hx,hy] at d;clear c;go_wp2;go_ret;exact ⟨.inr ⟨Zl m d.out,_,_,_,rfl⟩,f.out.drew⟩
 go_wp2_with fail
 refine F7 (S:=(fun u=>u.cell? ⟨wr.heap.size,0,none⟩=some (.string x.nm)/\u.cell? ⟨b,l+q*3,none⟩=some (.string y.nm))) U2 ?_ fun c=>?_
 · ((try dsimp only);go_keep)
 refine tq 0 c ?_;refine I4 1 c ?_;refine tq 2 c ?_;refine I4 3 c ?_;refine tq 4 c ?_;refine I4 5 c ?_;refine tq 6 c ?_;refine I4 7 c ?_;refine tq 8 c ?_;refine I4 9 c ?_;refine tq 10 c ?_;refine I4 11 c ?_;refine tq 12 c ?_;refine I4 13 c ?_;refine a_ ?_;rw [hx,hy] at d;clear c;have A:Hid (∀ j,j<k+1->La is j=true):=fun j F=>by
  rcases U5 j k with h | h
  · exact z.out j h
  obtain rfl:j=k:=O0;exact d.out
 go_wp2;go_roundw
 case rel=>exact ⟨k+1,O0,O0,by go_num,f.out.drew,A⟩
 case measure=>simp [intOf];omega
end Go.Proofs.YtdjaajjndfbpmaaGreatDoor.G
