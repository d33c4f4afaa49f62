import Derived.Test.YtkdbheidpdjimaaGreatDoorpA
set_option linter.unusedVariables false
set_option maxHeartbeats 8000000
set_option maxRecDepth 100000
namespace Go.Proofs.YtkdbheidpdjimaaGreatDoor.G
open Proofs.Tryz Go.RowKit
open T (Na)
section
variable {is js ms:List M3} {base i k:Nat} {x y:M3} {b s:BY} {R S a l q r t:List UInt8}
def stepM (ms:List M3) (k:Nat):Bool:=Ff (ms.getD k H_)&&(decide (k=0) || Op.bytesLess (ms.getD (k - 1) H_).nm.toList (ms.getD k H_).nm.toList)
def Zd (ms:List M3):Bool:=decide (ms.length<=30)&&(List.range ms.length).all (stepM ms)
theorem Jj (ms:List M3):Zd ms=true↔ms.length<=30/\∀ k,k<ms.length->stepM ms k=true:=by simp [Zd]
def Di (ms:List M3):List UInt8:=if Zd ms=true/\(ms.flatMap x_).length<=300 then ms.flatMap x_ else []
theorem Sr (h:k<ms.length) (a:stepM ms k=false):Zd ms=false:=by
 cases hp:Zd ms
 · rfl
 have:=((Jj ms).1 hp).2 k h;rw [a] at this;cases this
theorem Ur (h:k<ms.length) (a:stepM ms k=false):Di ms=[]:=by
 unfold Di;rw [if_neg (by simp [Sr h a])]
theorem KL (h:30<ms.length):Di ms=[]:=by
 unfold Di;rw [if_neg (by rw [Jj];omega)]
theorem Nr (h:Ff x=true):x.nm.size<=20/\x.tl.size<=20/\x.ar.size<=300:=by
 simp [Ff,o6] at h;exact ⟨h.1.1.1.2,h.1.2.1.2,O0⟩
theorem Ue (h:s.size<=300):(Y2 (X5 s.data.toList)).size<=902:=by
 have:=xM s.data.toList;have e:s.data.toList.length=s.size:=I4;rw [J5];omega
theorem step_ok (h:stepM ms k=true):Ff (ms.getD k H_)=true:=by
 unfold stepM at h;cases hx:Ff (ms.getD k H_)
 · rw [hx] at h;cases h
 rfl
theorem XR (h:Ff x=true):(x_ x).length<=950:=by
 obtain ⟨h1,h2,b⟩:=Nr h;have a:=Ue b;rw [J5] at a;have e1:x.nm.data.toList.length=x.nm.size:=I4;have c:x.tl.data.toList.length=x.tl.size:=I4;simp only [x_,Bd,N9,A_,Xe,e1,c];omega
theorem uy (a:k<ms.length):(ms.take (k+1)).flatMap x_=(ms.take k).flatMap x_++x_ (ms.getD k H_):=by
 have e:ms.getD k H_=ms[k]:=by simp [a]
 rw [Uy a,Dq,e];simp
theorem uN:∀ k,k<=ms.length->(∀ j,j<k->stepM ms j=true)->((ms.take k).flatMap x_).length<=950*k:=by
 intro k
 induction k with
 | zero=>intro _ _;simp
 | succ k ih=>
  intro hk hd;rw [uy O0,N9];have:=ih O0 (fun j hj=>hd j O0);have:=XR (step_ok (hd k O0));omega
theorem OG {a:BY} (h:a=b):Value.string a=.string b:=by rw [h]
theorem jK (l:List UInt8) (x:M3):Y2 l++(⟨#[109,97,107,101,32]⟩:BY)++x.nm++(⟨#[32]⟩:BY)++x.tl++(⟨#[32]⟩:BY)++Y2 (X5 x.ar.data.toList)++(⟨#[10]⟩:BY)=Y2 (l++x_ x):=by
 apply qg;simp [Y2,x_,Bd]
theorem a1Y (a:OA) (cap:Nat) (is:List M3) (w:World) (X:∀ i,(is.getD i H_).le 1048576) (hl:is.length<=1048576) (hat:Pn w a is):
 Calls prog 209 #[.slice a is.length cap] w fun e w'=>e=.returned (.string (Y2 (Di is)))/\Bw w w':=by
 obtain ⟨b,off,hc⟩:=uj hat;have HC:=U0 hc;clear hc hat;by_cases hbig:30<is.length
 · go_enter func209,ntmps209;go_wp2;go_ret;exact ⟨dm (by rw [KL hbig];rfl),Z4 _ _⟩
 go_enter func209,ntmps209
 go_wp2_with fail
 go_loopw [3,4] (fun o i wr=>∃ (k:Nat),k<=is.length/\i=.int .i64 k/\o=.string (Y2 ((is.take k).flatMap x_))/\Below w.heap.size w wr/\Hid (∀ j,j<k->stepM is j=true)) (fun _ i _=>is.length - (intOf i).toNat)
 case atStart=>exact ⟨0,D5 _,rfl,rfl,Z4 _ _,fun j h=>absurd h (o9 _)⟩
 obtain ⟨k,hk,rfl,rfl,s,L⟩:=hrel;have hL:(Y2 ((is.take k).flatMap x_)).size<=950*30:=by
  have:=uN k hk L.out;rw [J5];omega
 by_cases t:k<is.length;rotate_left
 · have hp:=(Jj is).2 ⟨O0,fun j hj=>L.out j O0⟩;have O:Hid ((is.take k).flatMap x_=is.flatMap x_):=by rw [u_ O0];rfl
   have HV:Hid (Di is=if (is.flatMap x_).length<=300 then is.flatMap x_ else []):=by unfold Di;simp only [hp,true_and];trivial
   clear hp;rw [O.out] at hL ⊢;generalize is.flatMap x_=l at*;by_cases a2v:300<(Y2 l).size
   · go_wp2;go_ret;exact ⟨dm (by rw [HV.out,A8 (by rw [J5] at a2v;omega)];rfl),s⟩
   go_wp2;go_ret;exact ⟨dm (by rw [HV.out,G8 (by rw [J5] at a2v;omega)]),s⟩
 obtain ⟨ha,J,I⟩:=Nc HC.out t;subst ha;have P:=U0 s;have g0:=(s.cell (p:=⟨b,off+k*3,none⟩) J).trans (I k t).1;have g1:=(s.cell (p:=⟨b,off+k*3+1,none⟩) J).trans (I k t).2.1;have g2:=(s.cell (p:=⟨b,off+k*3+2,none⟩) J).trans (I k t).2.2;have H:Hid ((is.getD k H_).le 1048700):=⟨Q7 (X k).1 O0,Q7 (X k).2.1 O0,Q7 (X k).2.2 O0⟩;have O:=U0 (uy t);generalize (is.take k).flatMap x_=l at*;rcases Iu k with h0 | h0
 · subst h0;have m:Hid (stepM is 0=Ff (is.getD 0 H_)):=by simp [stepM,Hid]
   simp only [Wq,Zo] at g0 g1 g2;generalize is.getD 0 H_=x at*;clear I s
   go_wp2_with fail
   have F:Hid (Bw w (wr.alloc (.cells #[vS x.nm,vS x.tl,vS x.ar] 101))):=P.out.alloc P.out.size _;have m0:(wr.alloc (.cells #[vS x.nm,vS x.tl,vS x.ar] 101)).cell? ⟨wr.heap.size,0,none⟩=some (vS x.nm):=I4;have D:(wr.alloc (.cells #[vS x.nm,vS x.tl,vS x.ar] 101)).cell? ⟨wr.heap.size,1,none⟩=some (vS x.tl):=I4;have C:(wr.alloc (.cells #[vS x.nm,vS x.tl,vS x.ar] 101)).cell? ⟨wr.heap.size,2,none⟩=some (vS x.ar):=I4;have d:wr.heap.size<(wr.alloc (.cells #[vS x.nm,vS x.tl,vS x.ar] 101)).heap.size:=I4;clear g0 g1 g2;generalize (wr.alloc (.cells #[vS x.nm,vS x.tl,vS x.ar] 101))=W at*;cases hx:Ff x
   · refine wp_region_held_drew (S:=(fun u=>u.cell? ⟨wr.heap.size,0,none⟩=some (vS x.nm)/\u.cell? ⟨wr.heap.size,1,none⟩=some (vS x.tl)/\u.cell? ⟨wr.heap.size,2,none⟩=some (vS x.ar))) J3 ?_ fun hH=>?_
     · ((try dsimp only);go_keep)
     refine Y0 0 ?_;refine rq 1 fun K f=>?_;go_simp;refine (fC hx _ H.out).mono ?_;rintro e n ⟨rfl,r⟩;have c:Hid (Bw W n):=((Z4 _ _).drew).trans r;have B:=(c.out.cell (p:=⟨wr.heap.size,0,none⟩) d).trans m0;have A:=(c.out.cell (p:=⟨wr.heap.size,1,none⟩) d).trans D;have z:=(c.out.cell (p:=⟨wr.heap.size,2,none⟩) d).trans C
     go_wp2_with fail
     clear hH;refine VA f fun hH=>?_;clear f K;refine tq 2 hH ?_;refine Y0 3 ?_;refine uq 4 hH ?_;refine Y4 5 ?_;refine uq 6 hH ?_;refine Y4 7 ?_;refine uq 8 hH ?_;refine Y4 9 ?_;refine uq 10 hH ?_;refine Y4 11 ?_;refine uq 12 hH ?_;refine Y4 13 ?_;refine uq 14 hH ?_;refine Y4 15 ?_;refine uq 16 hH ?_;refine Y0 17 ?_;refine wpAnyH_done J3 ?_ _;have g:=G7 F.out c.out;rw [hx] at m;clear hH;go_wp2;go_ret;exact ⟨dm (by rw [Ur t m.out];rfl),g⟩
   refine wp_region_held_drew (S:=(fun u=>u.cell? ⟨wr.heap.size,0,none⟩=some (vS x.nm)/\u.cell? ⟨wr.heap.size,1,none⟩=some (vS x.tl)/\u.cell? ⟨wr.heap.size,2,none⟩=some (vS x.ar))) J3 ?_ fun hH=>?_
   · ((try dsimp only);go_keep)
   refine Y0 0 ?_;refine rq 1 fun K f=>?_;go_simp;refine (fC hx _ H.out).mono ?_;rintro e n ⟨rfl,r⟩;have c:Hid (Bw W n):=((Z4 _ _).drew).trans r;have B:=(c.out.cell (p:=⟨wr.heap.size,0,none⟩) d).trans m0;have A:=(c.out.cell (p:=⟨wr.heap.size,1,none⟩) d).trans D;have z:=(c.out.cell (p:=⟨wr.heap.size,2,none⟩) d).trans C
   go_wp2_with fail
   clear hH;refine VA f fun hH=>?_;clear f K;refine tq 2 hH ?_;refine Y0 3 ?_;refine tq 4 hH ?_;refine Y0 5 ?_;refine tq 6 hH ?_;refine Y4 7 ?_;refine uq 8 hH ?_;refine Y4 9 ?_;refine uq 10 hH ?_;refine Y4 11 ?_;refine uq 12 hH ?_;refine Y4 13 ?_;refine uq 14 hH ?_;refine Y4 15 ?_;refine tq 16 hH ?_;refine Y0 17 ?_;refine wpAnyH_done J3 ?_ _;have g:=G7 F.out c.out;rw [hx] at m;clear hH;have Y:Hid (∀ j,j<0+1->stepM is j=true):=fun j hj=>by
    rcases o8 j 0 with h | h
    · exact L.out j h
    obtain rfl:j=0:=O0;exact m.out
   have E:=m_ d c.out.size;obtain ⟨j1,j2,U⟩:=Nr hx;have s3:=Ue U;have k0:¬ 9223372036854775807<(Y2 l).size+5:=O0;have k1:¬ 9223372036854775807<(Y2 l).size+5+x.nm.size:=O0;have k2:¬ 9223372036854775807<(Y2 l).size+5+x.nm.size+1:=O0;have k2':¬ 9223372036854775807<=(Y2 l).size+5+x.nm.size:=O0;have k3:¬ 9223372036854775807<(Y2 l).size+5+x.nm.size+1+x.tl.size:=O0;have k4:¬ 9223372036854775807<(Y2 l).size+5+x.nm.size+1+x.tl.size+1:=O0;have k4':¬ 9223372036854775807<=(Y2 l).size+5+x.nm.size+1+x.tl.size:=O0;have k5:¬ 9223372036854775807<(Y2 l).size+5+x.nm.size+1+x.tl.size+1+(Y2 (X5 x.ar.data.toList)).size:=O0;have k6:¬ 9223372036854775807<(Y2 l).size+5+x.nm.size+1+x.tl.size+1+(Y2 (X5 x.ar.data.toList)).size+1:=O0;have k6':¬ 9223372036854775807<=(Y2 l).size+5+x.nm.size+1+x.tl.size+1+(Y2 (X5 x.ar.data.toList)).size:=O0;have V:x.ar.size<=1048700:=O0
   go_wp2_with fail
   go_region_held3 (fun u=>u.cell? ⟨wr.heap.size,0,none⟩=some (vS x.nm)/\u.cell? ⟨wr.heap.size,1,none⟩=some (vS x.tl)/\u.cell? ⟨wr.heap.size,2,none⟩=some (vS x.ar)) (go_keep) (first | (go_at_call 152;refine (XG x.ar _ V).mono ?_;rintro e Q ⟨rfl,v⟩;have HB2:Hid (Bw w Q):=g.trans (((Z4 _ _).drew.trans v).mono g.size);have e0:=(v.cell (p:=⟨wr.heap.size,0,none⟩) (by simpa using E)).trans B;have e1:=(v.cell (p:=⟨wr.heap.size,1,none⟩) (by simpa using E)).trans A;have Z:=(v.cell (p:=⟨wr.heap.size,2,none⟩) (by simpa using E)).trans z))
   all_goals go_wp2
   all_goals go_roundw
   all_goals first
    | exact ⟨0+1,O0,by go_num,OG (by rw [O.out];exact jK l x),HB2.out,Y⟩
    | (simp [intOf];omega)
 obtain ⟨q,hq⟩:∃ q,q+1=k:=⟨k - 1,O0⟩;have g3':=(s.cell (p:=⟨b,off+q*3,none⟩) J).trans (I q O0).1;have a5G:=m_ J s.size;have m:Hid (stepM is k=(Ff (is.getD k H_)&&Op.bytesLess (is.getD q H_).nm.toList (is.getD k H_).nm.toList)):=by
  have e1:decide (k=0)=false:=P9 O0;have Z:k - 1=q:=O0;unfold stepM;rw [e1,Z];rfl
 have hm0:(0:Int)<(k:Int):=O0;have hm1:=y_ hm0;generalize is.getD k H_=x at*;generalize is.getD q H_=y at*;have hwr:IntKind.i64.wrap ((k:Int) - 1)=(q:Int):=by rw [show (k:Int) - 1=(q:Int) by omega];exact Na q O0
 have hql:(q:Int)<(is.length:Int):=O0;clear hq;clear I s
 go_wp2_with fail
 have F:Hid (Bw w (wr.alloc (.cells #[vS x.nm,vS x.tl,vS x.ar] 101))):=P.out.alloc P.out.size _;have m0:(wr.alloc (.cells #[vS x.nm,vS x.tl,vS x.ar] 101)).cell? ⟨wr.heap.size,0,none⟩=some (vS x.nm):=I4;have D:(wr.alloc (.cells #[vS x.nm,vS x.tl,vS x.ar] 101)).cell? ⟨wr.heap.size,1,none⟩=some (vS x.tl):=I4;have C:(wr.alloc (.cells #[vS x.nm,vS x.tl,vS x.ar] 101)).cell? ⟨wr.heap.size,2,none⟩=some (vS x.ar):=I4;have d:wr.heap.size<(wr.alloc (.cells #[vS x.nm,vS x.tl,vS x.ar] 101)).heap.size:=I4;have N:=Nat.lt_trans a5G d;have g3:(wr.alloc (.cells #[vS x.nm,vS x.tl,vS x.ar] 101)).cell? ⟨b,off+q*3,none⟩=some (vS y.nm):=(Wh _ _ ⟨b,off+q*3,none⟩ a5G).trans g3';clear g3';clear g0 g1 g2;generalize (wr.alloc (.cells #[vS x.nm,vS x.tl,vS x.ar] 101))=W at*;cases hx:Ff x
 · cases hy:Op.bytesLess y.nm.toList x.nm.toList
   · refine wp_region_held_drew (S:=(fun u=>u.cell? ⟨wr.heap.size,0,none⟩=some (vS x.nm)/\u.cell? ⟨wr.heap.size,1,none⟩=some (vS x.tl)/\u.cell? ⟨wr.heap.size,2,none⟩=some (vS x.ar)/\u.cell? ⟨b,off+q*3,none⟩=some (vS y.nm))) J3 ?_ fun hH=>?_
     · ((try dsimp only);go_keep)
     refine Y0 0 ?_;refine rq 1 fun K f=>?_;go_simp;refine (fC hx _ H.out).mono ?_;rintro e n ⟨rfl,r⟩;have c:Hid (Bw W n):=((Z4 _ _).drew).trans r;have B:=(c.out.cell (p:=⟨wr.heap.size,0,none⟩) d).trans m0;have A:=(c.out.cell (p:=⟨wr.heap.size,1,none⟩) d).trans D;have z:=(c.out.cell (p:=⟨wr.heap.size,2,none⟩) d).trans C;have R:=(c.out.cell (p:=⟨b,off+q*3,none⟩) N).trans g3
     go_wp2_with fail
     clear hH;refine VA f fun hH=>?_;clear f K;refine tq 2 hH ?_;refine Y0 3 ?_;refine uq 4 hH ?_;refine Y4 5 ?_;refine uq 6 hH ?_;refine Y4 7 ?_;refine uq 8 hH ?_;refine Y4 9 ?_;refine uq 10 hH ?_;refine Y4 11 ?_;refine uq 12 hH ?_;refine Y4 13 ?_;refine uq 14 hH ?_;refine Y4 15 ?_;refine uq 16 hH ?_;refine Y0 17 ?_;refine wpAnyH_done J3 ?_ _;have g:=G7 F.out c.out;rw [hx,hy] at m;clear hH;go_wp2;go_ret;exact ⟨dm (by rw [Ur t m.out];rfl),g⟩
   refine wp_region_held_drew (S:=(fun u=>u.cell? ⟨wr.heap.size,0,none⟩=some (vS x.nm)/\u.cell? ⟨wr.heap.size,1,none⟩=some (vS x.tl)/\u.cell? ⟨wr.heap.size,2,none⟩=some (vS x.ar)/\u.cell? ⟨b,off+q*3,none⟩=some (vS y.nm))) J3 ?_ fun hH=>?_
   · ((try dsimp only);go_keep)
   refine Y0 0 ?_;refine rq 1 fun K f=>?_;go_simp;refine (fC hx _ H.out).mono ?_;rintro e n ⟨rfl,r⟩;have c:Hid (Bw W n):=((Z4 _ _).drew).trans r;have B:=(c.out.cell (p:=⟨wr.heap.size,0,none⟩) d).trans m0;have A:=(c.out.cell (p:=⟨wr.heap.size,1,none⟩) d).trans D;have z:=(c.out.cell (p:=⟨wr.heap.size,2,none⟩) d).trans C;have R:=(c.out.cell (p:=⟨b,off+q*3,none⟩) N).trans g3
   go_wp2_with fail
   clear hH;refine VA f fun hH=>?_;clear f K;refine tq 2 hH ?_;refine Y0 3 ?_;refine uq 4 hH ?_;refine Y4 5 ?_;refine uq 6 hH ?_;refine Y4 7 ?_;refine uq 8 hH ?_;refine Y4 9 ?_;refine uq 10 hH ?_;refine Y4 11 ?_;refine uq 12 hH ?_;refine Y4 13 ?_;refine uq 14 hH ?_;refine Y4 15 ?_;refine uq 16 hH ?_;refine Y0 17 ?_;refine wpAnyH_done J3 ?_ _;have g:=G7 F.out c.out;rw [hx,hy] at m;clear hH;go_wp2;go_ret;exact ⟨dm (by rw [Ur t m.out];rfl),g⟩
 cases hy:Op.bytesLess y.nm.toList x.nm.toList
 · refine wp_region_held_drew (S:=(fun u=>u.cell? ⟨wr.heap.size,0,none⟩=some (vS x.nm)/\u.cell? ⟨wr.heap.size,1,none⟩=some (vS x.tl)/\u.cell? ⟨wr.heap.size,2,none⟩=some (vS x.ar)/\u.cell? ⟨b,off+q*3,none⟩=some (vS y.nm))) J3 ?_ fun hH=>?_
   · ((try dsimp only);go_keep)
   refine Y0 0 ?_;refine rq 1 fun K f=>?_;go_simp;refine (fC hx _ H.out).mono ?_;rintro e n ⟨rfl,r⟩;have c:Hid (Bw W n):=((Z4 _ _).drew).trans r;have B:=(c.out.cell (p:=⟨wr.heap.size,0,none⟩) d).trans m0;have A:=(c.out.cell (p:=⟨wr.heap.size,1,none⟩) d).trans D;have z:=(c.out.cell (p:=⟨wr.heap.size,2,none⟩) d).trans C;have R:=(c.out.cell (p:=⟨b,off+q*3,none⟩) N).trans g3
   go_wp2_with fail
   clear hH;refine VA f fun hH=>?_;clear f K;refine tq 2 hH ?_;refine Y0 3 ?_;refine tq 4 hH ?_;refine Y0 5 ?_;refine tq 6 hH ?_;refine Y0 7 ?_;refine tq 8 hH ?_;refine Y0 9 ?_;refine tq 10 hH ?_;refine Y0 11 ?_;refine tq 12 hH ?_;refine Y0 13 ?_;refine tq 14 hH ?_;refine Y0 15 ?_;refine tq 16 hH ?_;refine Y0 17 ?_;refine wpAnyH_done J3 ?_ _;have g:=G7 F.out c.out;rw [hx,hy] at m;clear hH;go_wp2;go_ret;exact ⟨dm (by rw [Ur t m.out];rfl),g⟩
 refine wp_region_held_drew (S:=(fun u=>u.cell? ⟨wr.heap.size,0,none⟩=some (vS x.nm)/\u.cell? ⟨wr.heap.size,1,none⟩=some (vS x.tl)/\u.cell? ⟨wr.heap.size,2,none⟩=some (vS x.ar)/\u.cell? ⟨b,off+q*3,none⟩=some (vS y.nm))) J3 ?_ fun hH=>?_
 · ((try dsimp only);go_keep)
 refine Y0 0 ?_;refine rq 1 fun K f=>?_;go_simp;refine (fC hx _ H.out).mono ?_;rintro e n ⟨rfl,r⟩;have c:Hid (Bw W n):=((Z4 _ _).drew).trans r;have B:=(c.out.cell (p:=⟨wr.heap.size,0,none⟩) d).trans m0;have A:=(c.out.cell (p:=⟨wr.heap.size,1,none⟩) d).trans D;have z:=(c.out.cell (p:=⟨wr.heap.size,2,none⟩) d).trans C;have R:=(c.out.cell (p:=⟨b,off+q*3,none⟩) N).trans g3
 go_wp2_with fail
 clear hH;refine VA f fun hH=>?_;clear f K;refine tq 2 hH ?_;refine Y0 3 ?_;refine tq 4 hH ?_;refine Y0 5 ?_;refine tq 6 hH ?_;refine Y0 7 ?_;refine tq 8 hH ?_;refine Y0 9 ?_;refine tq 10 hH ?_;refine Y0 11 ?_;refine tq 12 hH ?_;refine Y0 13 ?_;refine tq 14 hH ?_;refine Y0 15 ?_;refine tq 16 hH ?_;refine Y0 17 ?_;refine wpAnyH_done J3 ?_ _;have g:=G7 F.out c.out;rw [hx,hy] at m;clear hH;have Y:Hid (∀ j,j<k+1->stepM is j=true):=fun j hj=>by
  rcases o8 j k with h | h
  · exact L.out j h
  obtain rfl:j=k:=O0;exact m.out
 have E:=m_ d c.out.size;obtain ⟨j1,j2,U⟩:=Nr hx;have s3:=Ue U;have k0:¬ 9223372036854775807<(Y2 l).size+5:=O0;have k1:¬ 9223372036854775807<(Y2 l).size+5+x.nm.size:=O0;have k2:¬ 9223372036854775807<(Y2 l).size+5+x.nm.size+1:=O0;have k2':¬ 9223372036854775807<=(Y2 l).size+5+x.nm.size:=O0;have k3:¬ 9223372036854775807<(Y2 l).size+5+x.nm.size+1+x.tl.size:=O0;have k4:¬ 9223372036854775807<(Y2 l).size+5+x.nm.size+1+x.tl.size+1:=O0;have k4':¬ 9223372036854775807<=(Y2 l).size+5+x.nm.size+1+x.tl.size:=O0;have k5:¬ 9223372036854775807<(Y2 l).size+5+x.nm.size+1+x.tl.size+1+(Y2 (X5 x.ar.data.toList)).size:=O0;have k6:¬ 9223372036854775807<(Y2 l).size+5+x.nm.size+1+x.tl.size+1+(Y2 (X5 x.ar.data.toList)).size+1:=O0;have k6':¬ 9223372036854775807<=(Y2 l).size+5+x.nm.size+1+x.tl.size+1+(Y2 (X5 x.ar.data.toList)).size:=O0;have V:x.ar.size<=1048700:=O0
 go_wp2_with fail
 go_region_held3 (fun u=>u.cell? ⟨wr.heap.size,0,none⟩=some (vS x.nm)/\u.cell? ⟨wr.heap.size,1,none⟩=some (vS x.tl)/\u.cell? ⟨wr.heap.size,2,none⟩=some (vS x.ar)) (go_keep) (first | (go_at_call 152;refine (XG x.ar _ V).mono ?_;rintro e Q ⟨rfl,v⟩;have HB2:Hid (Bw w Q):=g.trans (((Z4 _ _).drew.trans v).mono g.size);have e0:=(v.cell (p:=⟨wr.heap.size,0,none⟩) (by simpa using E)).trans B;have e1:=(v.cell (p:=⟨wr.heap.size,1,none⟩) (by simpa using E)).trans A;have Z:=(v.cell (p:=⟨wr.heap.size,2,none⟩) (by simpa using E)).trans z))
 all_goals go_wp2
 all_goals go_roundw
 all_goals first
  | exact ⟨k+1,O0,by go_num,OG (by rw [O.out];exact jK l x),HB2.out,Y⟩
  | (simp [intOf];omega)
def ig (x:M3):List UInt8:=[109,97,107,101]++32::Bd x
theorem Ti (x:M3):x_ x=ig x++[10]:=rfl
theorem Vp (h:Ff x=true):(10:UInt8)∉ig x:=by
 obtain ⟨h1,h2,_⟩:=zh h;unfold ig;rw [Ic];simp only [jh,ve,Qm];refine ⟨O6,O6,(R_ h1).2,O6,(R_ h2).2,O6,aj _⟩
theorem CQ (hx:Ff x=true) (a:Ff y=true) (h:ig x=ig y):x=y:=by
 unfold ig at h;exact nC hx a (by simpa using h)
theorem dF (_hy:Ff y=true):l=ig y↔O1 l=[109,97,107,101]/\Y1 l=Bd y:=by
 constructor
 · rintro rfl;exact Y7 O6
 rintro ⟨h1,h2⟩;by_cases hm:(32:UInt8)∈l
 · have:=(Lm hm).1;rw [h1,h2] at this;exact this
 rw [(Xi hm).2] at h2;exact absurd h2.symm (bK y)
theorem WQ (hx:Ff x=true) (a:Ff y=true) (h:x_ x++r=x_ y++q):x=y/\r=q:=by
 rw [Ti,Ti,oq,oq] at h;obtain ⟨h1,h2⟩:=GK (Vp hx) (Vp a) h;exact ⟨CQ hx a h1,h2⟩
theorem YC (x:M3):x_ x≠[]:=by rw [Ti];simp
theorem OC (b:is.all Ff=true) (a:js.all Ff=true) (h:is.flatMap x_++R=js.flatMap x_):∃ r,R=r.flatMap x_/\js=is++r:=by
 induction is generalizing js with
 | nil=>exact ⟨js,by simpa using h,rfl⟩
 | cons x is ih=>
  simp only [lm,Fa] at b
  cases js with
  | nil=>
   have:=YC x;simp at h;exact absurd h.1 this
  | cons y js=>
   simp only [lm,Fa] at a;simp only [Pg,oq] at h;obtain ⟨rfl,h2⟩:=WQ b.1 a.1 h;obtain ⟨r,hr,hl⟩:=ih b.2 a.2 h2;exact ⟨r,hr,by rw [hl];rfl⟩
theorem yC (b:is.all Ff=true) (a:js.all Ff=true) (h:is.flatMap x_=js.flatMap x_):is=js:=by
 obtain ⟨r,hr,hl⟩:=OC (R:=[]) b a (by simpa using h)
 cases r with
 | nil=>simpa using hl.symm
 | cons y r=>
  have:=YC y;simp at hr;exact absurd hr.1 this
theorem VF (is:List M3):is.length<=(is.flatMap x_).length:=by
 induction is with
 | nil=>simp
 | cons x r ih=>
  have:1<=(x_ x).length:=Gt.2 (YC x);simp only [Pg,N9,A_];omega
theorem Lj (h:Zd ms=true):ms.all Ff=true:=by
 rw [Iq];intro x hx;obtain ⟨k,a,e⟩:=Ee hx;have:=step_ok (((Jj ms).1 h).2 k a);rw [List.getD,y9 a] at this;rw [<- e];exact this
def Va (l:List UInt8) (is:List M3) (ok:Bool):Prop:=(ok=true->Zd is=true/\is.flatMap x_=l/\l.length<=300)/\(ok=false->is=[]/\∀ js,Zd js=true->js.flatMap x_=l->300<l.length)
theorem LH {a b:Bool} (h:Va l is a) (k:Va l js b):is=js/\a=b:=by
 cases a <;> cases b
 · exact ⟨(h.2 rfl).1.trans (k.2 rfl).1.symm,rfl⟩
 · obtain ⟨d,c,e⟩:=k.1 rfl;have:=(h.2 rfl).2 js d c;omega
 · obtain ⟨d,c,e⟩:=h.1 rfl;have:=(k.2 rfl).2 is d c;omega
 obtain ⟨d,c,e⟩:=k.1 rfl;obtain ⟨h1,h2,h3⟩:=h.1 rfl;exact ⟨yC (Lj h1) (Lj d) (h2.trans c.symm),rfl⟩
def Way (l:List UInt8) (is:List M3) (r:List UInt8):Prop:=l=is.flatMap x_++r/\is.all Ff=true
theorem zM (l:List UInt8):Way l [] l:=⟨rfl,rfl⟩
theorem qO (h:Way l is (a++10::r)) (hx:Ff x=true/\a=ig x):Way l (is++[x]) r:=by
 refine ⟨?_,by rw [Ho,h.2];simp [hx.1]⟩;rw [h.1,Dq,hx.2];simp [Ti]
theorem JC (h:Way l is r) (hr:r≠[]) (d:∀ y q,Ff y=true->r≠ig y++10::q):Va l [] false:=by
 refine ⟨(fun h=>by cases h),fun _=>⟨rfl,fun js b e=>?_⟩⟩;exfalso;obtain ⟨q,a,hl⟩:=OC h.2 (Lj b) (h.1.symm.trans e.symm)
 cases q with
 | nil=>exact hr a
 | cons y q=>
  have c:Ff y=true:=by
   have:=(Lj b);rw [hl,Ho,lm] at this;simp only [Fa] at this;exact this.2.1
  apply d y (q.flatMap x_) c;rw [a,Pg,Ti,oq];rfl
theorem gU (h:Way l is []) (c:l.length<=300):(Zd is=true->Va l is true)/\(Zd is=false->Va l [] false):=by
 have e:l=is.flatMap x_:=by simpa using h.1
 refine ⟨fun a=>⟨fun _=>⟨a,e.symm,c⟩,(fun h=>by cases h)⟩,fun a=>⟨(fun h=>by cases h),fun _=>⟨rfl,fun js b d=>?_⟩⟩⟩;have:=yC (Lj b) h.2 (d.trans e);rw [this,a] at b;cases b
theorem IB (h:300<l.length):Va l [] false:=⟨(fun h=>by cases h),fun _=>⟨rfl,fun _ _ _=>h⟩⟩
theorem oJ (h:ms.all Ff=true) (a:i<ms.length):Ff (ms.getD i H_)=true:=by
 rw [List.getD,y9 a];exact Iq.1 h _ (Bj a)
theorem zO (h:Ff x=true):x.le 300:=by
 obtain ⟨h1,h2,a⟩:=Nr h;exact ⟨O0,O0,a⟩
theorem fV (h:Way l is r):is.length+r.length<=l.length/\∀ i,(is.getD i H_).le 300:=by
 have h1:=VF is;have h2:=P5 List.length h.1;rw [N9] at h2;exact ⟨O0,Yv fun i a=>zO (oJ h.2 a)⟩
def Xa (is:List M3):List Value:=is.flatMap fun x=>[.string x.nm,.string x.tl,.string x.ar]
theorem Ir (is:List M3) (x:M3):Xa (is++[x])=Xa is++[.string x.nm,.string x.tl,.string x.ar]:=by simp [Xa]
theorem YF (is:List M3) (i:Nat) (h:i<is.length):(Xa is)[i*3]?=some (.string (is.getD i H_).nm)/\(Xa is)[i*3+1]?=some (.string (is.getD i H_).tl)/\(Xa is)[i*3+2]?=some (.string (is.getD i H_).ar):=by
 induction is generalizing i with
 | nil=>simp at h
 | cons x r ih=>
  cases i with
  | zero=>exact ⟨rfl,rfl,rfl⟩
  | succ i=>
   have:=ih i (by simpa using h);have e:∀ j,(Xa (x::r))[(i+1)*3+j]?=(Xa r)[i*3+j]?:=fun j=>by
    show ([Value.string x.nm,vS x.tl,vS x.ar]++Xa r)[(i+1)*3+j]?=_;rw [Cf U7]
    congr 1
    simp;omega
   have e0:=e 0;simp only [Zo] at e0;rw [e0,e 1,e 2];exact this
theorem Jp {w:World} {v:Value} (h:w.ownsRow base 101 3 v is.length (Xa is)):∃ a c,v=.slice a is.length c/\Pn w a is:=by
 have b:=h;rcases h.2 with ⟨hv,h0⟩ | ⟨g,c,cur,hv,hg,e,_⟩
 · exact ⟨none,0,by rw [hv,h0],.inl (Ya.1 h0)⟩
 refine ⟨some ⟨g,0,none⟩,c,hv,?_⟩;subst hv;refine .inr ⟨g,0,rfl,Zf e,fun i d=>?_⟩;obtain ⟨e0,e1,f⟩:=YF is i d;rw [E8,b.cellAt _ O0,b.cellAt _ O0,b.cellAt _ O0];exact ⟨e0,e1,f⟩
theorem mM (js:List M3) (a:js.all Ff=true) (o:List (List UInt8)):(js.flatMap x_).foldl (cst 10) (o,[])=(o++js.map ig,[]):=by
 induction js generalizing o with
 | nil=>simp
 | cons x r ih=>
  simp only [lm,Fa] at a;rw [Pg,UD,Ti,ZF _ _ (Vp a.1)];simp only [M_];rw [ih a.2];simp
theorem XB (js:List M3) (a:js.all Ff=true):L8 10 (js.flatMap x_)=js.map ig++[[]]:=by
 unfold L8 D8;rw [mM js a];simp
def Parsed (l:List UInt8) (x:M3):Prop:=∀ y,Ff y=true->l=ig y->x=y
theorem parsed (ht:∀ q,S9 l 3=X5 q->t=q):Parsed l ⟨Y2 (O1 (S9 l 1)),Y2 (O1 (S9 l 2)),Y2 t⟩:=by
 intro y f e;obtain ⟨h1,h2,_⟩:=zh f;have a:S9 l 1=Bd y:=((dF f).1 e).2;rw [Ic] at a;have c:=Y7 (r:=y.tl.data.toList++32::X5 y.ar.data.toList) (R_ h1).1;have d:S9 l 2=y.tl.data.toList++32::X5 y.ar.data.toList:=by show Y1 (S9 l 1)=_;rw [a];exact c.2
 have b:=Y7 (r:=X5 y.ar.data.toList) (R_ h2).1;have g:S9 l 3=X5 y.ar.data.toList:=by show Y1 (S9 l 2)=_;rw [d];exact b.2
 have:=ht _ g;subst this;rw [a,d,c.1,b.1];rfl
def BF (S:List UInt8) (is:List M3) (k:Nat):Prop:=∀ js:List M3,js.all Ff=true->js.flatMap x_=S->is=js.take k
theorem yH (S:List UInt8):BF S [] 0:=fun _ _ _=>rfl
theorem aJ (h:BF S is k) (d:k+1<(L8 10 S).length) (b:Parsed ((L8 10 S).getD k []) x):BF S (is++[x]) (k+1):=by
 intro js c e;have h1:=h js c e;have hc:=XB js c;rw [e] at hc;rw [hc] at d b;simp only [N9,Lc,A_,Xe] at d;have a:k<js.length:=O0;have g:(js.map ig++[[]]).getD k []=ig js[k]:=by
  simp only [List.getD,I_ (show k<(js.map ig).length by simpa using a),Zr,y9 a];rfl
 rw [g] at b;have f:=(Iq.1 c) _ (Bj a);rw [h1,b js[k] f rfl,<- Uy a]
theorem LM (h:BF S is k) (hkl:is.length=k) (a:k+1=(L8 10 S).length) (d:S.length<=300):(Di is=S->Va S is true)/\(Di is≠S->Va S [] false):=by
 constructor
 · intro h2;unfold Di at h2;by_cases hc:Zd is=true/\(is.flatMap x_).length<=300
   · rw [G8 hc] at h2;exact ⟨fun _=>⟨hc.1,h2,d⟩,(fun h=>by cases h)⟩
   rw [A8 hc] at h2;subst h2;have:k=0:=by simpa [L8,D8] using a
   have:is=[]:=Ya.1 O0;subst this;exact absurd ⟨rfl,I4⟩ hc
 intro f;refine ⟨(fun h=>by cases h),fun _=>⟨rfl,fun js b e=>?_⟩⟩;exfalso;apply f;have c:=Lj b;have h1:=h js c e;have hc:=XB js c;rw [e] at hc;rw [hc] at a;simp only [N9,Lc,A_,Xe] at a;rw [u_ O0] at h1;subst h1;unfold Di;rw [G8 ⟨b,by rw [e];exact d⟩,e]
def XY (is:List M3) (e:Ending):Prop:=
 (Zd is=true/\e=.returned .nilIface)\/(Zd is=false/\∃ n ty va,e=.returned (.iface 230 (.agg #[.int .i64 n,.iface ty va])))
theorem c194 (a:OA) (W:Nat) (is:List M3) (w:World) (r:∀ i,(is.getD i H_).le 1048576) (hl:is.length<=1048576) (E:Pn w a is) (t0 t1 t2:TypeId) (K J v2:Value) (A:w.cell? ⟨6,0,none⟩=some (.iface t0 K)) (F:w.cell? ⟨7,0,none⟩=some (.iface t1 J)) (z:w.cell? ⟨8,0,none⟩=some (.iface t2 v2)):
 Calls prog 194 #[.slice a is.length W] w fun e w'=>XY is e/\Bw w w':=by
 have h3z:8<w.heap.size:=by
  rcases o8 8 w.heap.size with h | h
  · exact h
  simp [World.cell?,Bq h] at z
 obtain ⟨b,off,hc⟩:=uj E;have Y:=U0 hc;clear hc E;go_enter func194,ntmps194
 go_wp2_with fail
 go_loopw [7] (fun i wr=>∃ (k:Nat),k<=is.length/\k<=30/\i=.int .i64 k/\Below w.heap.size w wr/\Hid (∀ j,j<k->stepM is j=true)) (fun i _=>is.length - (intOf i).toNat)
 case atStart=>exact ⟨0,D5 _,D5 _,rfl,Z4 _ _,fun j h=>absurd h (o9 _)⟩
 obtain ⟨k,hk,a6X,rfl,f,t⟩:=hrel;by_cases m:k<is.length;rotate_left
 · have s:Hid (∀ _:is.length<=30,Zd is=true):=fun h=>(Jj is).2 ⟨h,fun j D=>t.out j O0⟩;have R:Hid (is.length<=30):=by show is.length<=30;omega
   go_wp2;go_ret;exact ⟨.inl ⟨s.out R.out,rfl⟩,f⟩
 obtain ⟨ha,o,n⟩:=Nc Y.out m;subst ha;have l:=U0 f;have g0:=(f.cell (p:=⟨b,off+k*3,none⟩) o).trans (n k m).1;have g1:=(f.cell (p:=⟨b,off+k*3+1,none⟩) o).trans (n k m).2.1;have g2:=(f.cell (p:=⟨b,off+k*3+2,none⟩) o).trans (n k m).2.2;have C:Hid ((is.getD k H_).le 1048700):=⟨Q7 (r k).1 O0,Q7 (r k).2.1 O0,Q7 (r k).2.2 O0⟩;have Q:=m_ o f.size;by_cases U:k=30
 · have X:Hid (Zd is=false):=by
    cases s:Zd is
    · rfl
    have:=((Jj is).1 s).1;omega
   subst U;have B:=(Wh wr (.cells #[vS (is.getD 30 H_).nm,vS (is.getD 30 H_).tl,vS (is.getD 30 H_).ar] 101) ⟨6,0,none⟩ (m_ (by show 6<w.heap.size;omega) f.size)).trans ((f.cell (p:=⟨6,0,none⟩) (by show 6<w.heap.size;omega)).trans A);clear n;generalize is.getD 30 H_=x at*;go_wp2;go_ret;exact ⟨.inr ⟨X.out,_,_,_,rfl⟩,l.out.alloc l.out.size _⟩
 rcases Iu k with h0 | h0
 · subst h0;have c:Hid (stepM is 0=Ff (is.getD 0 H_)):=by simp [stepM,Hid]
   simp only [Wq,Zo] at g0 g1 g2;generalize is.getD 0 H_=x at*;clear n f
   go_wp2_with fail
   refine (ZT x _ C.out).mono ?_;rintro e I ⟨rfl,g⟩;have d:=U0 ((l.out.alloc l.out.size _).trans (g.mono (by simp;exact YH l.out.size)));have m0:=(g.cell (p:=⟨wr.heap.size,0,none⟩) I4).trans (show (wr.alloc (.cells #[vS x.nm,vS x.tl,vS x.ar] 101)).cell? ⟨wr.heap.size,0,none⟩=some (vS x.nm) by simp);have B:=(d.out.cell (p:=⟨6,0,none⟩) (by show 6<w.heap.size;omega)).trans A;have N:=(d.out.cell (p:=⟨7,0,none⟩) (by show 7<w.heap.size;omega)).trans F;have L:=(d.out.cell (p:=⟨8,0,none⟩) (by show 8<w.heap.size;omega)).trans z;clear g g0 g1 g2;cases hx:Ff x
   · rw [hx] at c;go_wp2;go_ret;exact ⟨.inr ⟨Sr m c.out,_,_,_,rfl⟩,d.out⟩
   go_wp2_with fail
   refine wp_region_held_drew (S:=(fun u=>u.cell? ⟨wr.heap.size,0,none⟩=some (vS x.nm))) J3 ?_ fun hH=>?_
   · ((try dsimp only);go_keep)
   refine tq 0 hH ?_;refine Y0 1 ?_;refine tq 2 hH ?_;refine Y4 3 ?_;refine uq 4 hH ?_;refine Y4 5 ?_;refine uq 6 hH ?_;refine Y4 7 ?_;refine uq 8 hH ?_;refine Y4 9 ?_;refine uq 10 hH ?_;refine Y4 11 ?_;refine tq 12 hH ?_;refine Y0 13 ?_;refine wpAnyH_done J3 ?_ _;rw [hx] at c;clear hH;have v:Hid (∀ j,j<0+1->stepM is j=true):=fun j D=>by
    rcases o8 j 0 with h | h
    · exact t.out j h
    obtain rfl:j=0:=O0;exact c.out
   go_wp2;go_roundw
   case rel=>exact ⟨0+1,O0,O0,by go_num,d.out.drew,v⟩
   case measure=>simp [intOf];omega
 obtain ⟨q,O⟩:∃ q,q+1=k:=⟨k - 1,O0⟩;have H:=(f.cell (p:=⟨b,off+q*3,none⟩) o).trans (n q O0).1;have c:Hid (stepM is k=(Ff (is.getD k H_)&&Op.bytesLess (is.getD q H_).nm.toList (is.getD k H_).nm.toList)):=by
  have e1:decide (k=0)=false:=P9 O0;have V:k - 1=q:=O0;unfold stepM;rw [e1,V];rfl
 have P:(0:Int)<(k:Int):=O0;have hm1:=y_ P;generalize is.getD k H_=x at*;generalize is.getD q H_=y at*;have hwr:IntKind.i64.wrap ((k:Int) - 1)=(q:Int):=by rw [show (k:Int) - 1=(q:Int) by omega];exact Na q O0
 have hql:(q:Int)<(is.length:Int):=O0;clear O;clear n f
 go_wp2_with fail
 refine (ZT x _ C.out).mono ?_;rintro e I ⟨rfl,g⟩;have d:=U0 ((l.out.alloc l.out.size _).trans (g.mono (by simp;exact YH l.out.size)));have m0:=(g.cell (p:=⟨wr.heap.size,0,none⟩) I4).trans (show (wr.alloc (.cells #[vS x.nm,vS x.tl,vS x.ar] 101)).cell? ⟨wr.heap.size,0,none⟩=some (vS x.nm) by simp);have g3:=(g.cell (p:=⟨b,off+q*3,none⟩) U7).trans ((Wh _ _ ⟨b,off+q*3,none⟩ Q).trans H);clear H;have B:=(d.out.cell (p:=⟨6,0,none⟩) (by show 6<w.heap.size;omega)).trans A;have N:=(d.out.cell (p:=⟨7,0,none⟩) (by show 7<w.heap.size;omega)).trans F;have L:=(d.out.cell (p:=⟨8,0,none⟩) (by show 8<w.heap.size;omega)).trans z;clear g g0 g1 g2;cases hx:Ff x
 · have c:Hid (stepM is k=false):=by rw [c.out,hx];rfl
   go_wp2;go_ret;exact ⟨.inr ⟨Sr m c.out,_,_,_,rfl⟩,d.out⟩
 cases hy:Op.bytesLess y.nm.toList x.nm.toList
 · go_wp2_with fail
   refine wp_region_held_drew (S:=(fun u=>u.cell? ⟨wr.heap.size,0,none⟩=some (vS x.nm)/\u.cell? ⟨b,off+q*3,none⟩=some (vS y.nm))) J3 ?_ fun hH=>?_
   · ((try dsimp only);go_keep)
   refine tq 0 hH ?_;refine Y0 1 ?_;refine tq 2 hH ?_;refine Y0 3 ?_;refine tq 4 hH ?_;refine Y0 5 ?_;refine tq 6 hH ?_;refine Y0 7 ?_;refine tq 8 hH ?_;refine Y0 9 ?_;refine tq 10 hH ?_;refine Y0 11 ?_;refine tq 12 hH ?_;refine Y0 13 ?_;refine wpAnyH_done J3 ?_ _;rw [hx,hy] at c;clear hH;go_wp2;go_ret;exact ⟨.inr ⟨Sr m c.out,_,_,_,rfl⟩,d.out.drew⟩
 go_wp2_with fail
 refine wp_region_held_drew (S:=(fun u=>u.cell? ⟨wr.heap.size,0,none⟩=some (vS x.nm)/\u.cell? ⟨b,off+q*3,none⟩=some (vS y.nm))) J3 ?_ fun hH=>?_
 · ((try dsimp only);go_keep)
 refine tq 0 hH ?_;refine Y0 1 ?_;refine tq 2 hH ?_;refine Y0 3 ?_;refine tq 4 hH ?_;refine Y0 5 ?_;refine tq 6 hH ?_;refine Y0 7 ?_;refine tq 8 hH ?_;refine Y0 9 ?_;refine tq 10 hH ?_;refine Y0 11 ?_;refine tq 12 hH ?_;refine Y0 13 ?_;refine wpAnyH_done J3 ?_ _;rw [hx,hy] at c;clear hH;have v:Hid (∀ j,j<k+1->stepM is j=true):=fun j D=>by
  rcases o8 j k with h | h
  · exact t.out j h
  obtain rfl:j=k:=O0;exact c.out
 go_wp2;go_roundw
 case rel=>exact ⟨k+1,O0,O0,by go_num,d.out.drew,v⟩
 case measure=>simp [intOf];omega
end
end Go.Proofs.YtkdbheidpdjimaaGreatDoor.G
namespace Go.Proofs.YtkdbheidpdjimaaGreatDoor.G
open Proofs.Tryz Go.RowKit
open T (F2 P8 J_ Asc J6 U5 yg Na)
section
variable {w w':World}
structure Ru (w:World):Prop where
 g0:∃ t v,w.cell? ⟨6,0,none⟩=some (.iface t v)
 g1:∃ t v,w.cell? ⟨7,0,none⟩=some (.iface t v)
 g2:∃ t v,w.cell? ⟨8,0,none⟩=some (.iface t v)
 g6:w.cell? ⟨4,0,none⟩=some (.iface 345 (.agg #[.pointer (some ⟨14,143,none⟩)]))
theorem Ru.pos (h:Ru w):8<w.heap.size:=by
 obtain ⟨t,v,a⟩:=h.g2;rcases o8 8 w.heap.size with h | h
 · exact h
 simp [World.cell?,Bq h] at a
theorem Ru.below (h:Ru w) (a:Bw w w'):Ru w':=by
 have hp:=h.pos;obtain ⟨t0,c,h0⟩:=h.g0;obtain ⟨t1,b,h1⟩:=h.g1;obtain ⟨t2,v2,h2⟩:=h.g2;exact ⟨⟨t0,c,(a.cell (p:=(aA 6 0)) (by show 6<w.heap.size;omega)).trans h0⟩,⟨t1,b,(a.cell (p:=(aA 7 0)) (by show 7<w.heap.size;omega)).trans h1⟩,⟨t2,v2,(a.cell (p:=(aA 8 0)) (by show 8<w.heap.size;omega)).trans h2⟩,(a.cell (p:=(aA 4 0)) (by show 4<w.heap.size;omega)).trans h.g6⟩
theorem wP (l:List UInt8) (w:World) (hs:l.length<=1048700) (hm:Tc w):
 Calls prog 167 #[.string (Y2 l),.string ⟨#[32]⟩] w fun e w'=>(∃ y,e=.returned (.tuple #[.string (Y2 (O1 l)),.string (Y2 (Y1 l)),.bool y]))/\Bw w w':=by
 obtain ⟨_,m,hm⟩:=hm;refine (Tryz.strings_Cut (Y2 l) ⟨#[32]⟩ m w (by rw [J5];omega) hm).mono ?_;rintro e w' ⟨rfl,n,rfl⟩;refine ⟨⟨(Lib.cut l [32]).2.2,?_⟩,below_drewN n⟩;rw [<- YI,<- YD];rfl
theorem a0h (l:List UInt8) (w:World) (hs:l.length<=1048700) (hm:Tc w):
 Calls prog 167 #[.string (Y2 l),.string ⟨#[10]⟩] w fun e w'=>e=.returned (.tuple #[.string (Y2 (Lib.cut l [10]).1),.string (Y2 (Lib.cut l [10]).2.1),.bool (Lib.cut l [10]).2.2])/\Bw w w':=by
 obtain ⟨_,m,hm⟩:=hm;refine (Tryz.strings_Cut (Y2 l) ⟨#[10]⟩ m w (by rw [J5];omega) hm).mono ?_;rintro e w' ⟨rfl,n,rfl⟩;exact ⟨rfl,below_drewN n⟩
theorem a2p (s:BY) (w:World):
 Calls prog 192 #[.string s,.string ⟨#[10]⟩] w fun e w'=>(∃ n,e=.returned (.int .i64 n))/\w'=w:=by
 go_enter func192,ntmps192;go_wp2;rw [run_callFunc_extern func237 J3 J3 J3 (e:=Extern.BytealgCount.count) J3,Lib.run_countString];simp only [Result.andThen];rw [Oper.upon_value];go_wp2;go_ret;exact ⟨⟨_,rfl⟩,rfl⟩
structure Rz (w:World):Prop where
 va:Ru w
 g3:∃ t v,w.cell? ⟨1,0,none⟩=some (.iface t v)
 g4:∃ t v,w.cell? ⟨2,0,none⟩=some (.iface t v)
 g5:∃ t v,w.cell? ⟨3,0,none⟩=some (.iface t v)
 mx:Tc w
theorem Rz.below (h:Rz w) (a:Bw w w'):Rz w':=by
 have hp:=h.va.pos;obtain ⟨g,d,k⟩:=h.g3;obtain ⟨f,c,j⟩:=h.g4;obtain ⟨e,b,i⟩:=h.g5;exact ⟨h.va.below a,⟨g,d,(a.cell (p:=(aA 1 0)) (by show 1<w.heap.size;omega)).trans k⟩,⟨f,c,(a.cell (p:=(aA 2 0)) (by show 2<w.heap.size;omega)).trans j⟩,⟨e,b,(a.cell (p:=(aA 3 0)) (by show 3<w.heap.size;omega)).trans i⟩,G9 h.mx a⟩
def yV (w:World) (l:List UInt8) (e:Ending) (w':World):Prop:=∃ (ms:List M3) (v er:Value),e=.returned (.tuple #[v,er])/\w'.ownsRow w.heap.size 101 3 v ms.length (Xa ms)/\((er=.nilIface/\Va l ms true)\/((∃ n ty va,er=.iface 230 (.agg #[.int .i64 n,.iface ty va]))/\Va l [] false))
theorem Qw {l:List UInt8} (n:Int) (ty:TypeId) (va:Value) (h:Va l [] false):yV w l (.returned (.tuple #[.slice none 0 0,.iface 230 (.agg #[.int .i64 n,.iface ty va])])) w':=⟨[],_,_,rfl,ng _ _ _ _,.inr ⟨⟨n,ty,va,rfl⟩,h⟩⟩
theorem ZL (s:BY) (w:World) (hs:s.size<=1048576) (a:300<s.size) (hv:Rz w):
 Calls prog 135 #[.string s] w fun e w'=>yV w s.data.toList e w'/\Bw w w':=by
 have b:Hid (Va s.data.toList [] false):=IB (by simpa using a);obtain ⟨t3,v3,g3⟩:=hv.g3;go_enter func135,ntmps135
 go_wp2_with fail
 go_region_with (go_at_call 192;refine (a2p _ _).mono ?_;rintro e w' ⟨⟨n,rfl⟩,rfl⟩)
 all_goals go_wp2
 all_goals go_ret2
 all_goals exact ⟨Qw _ _ _ b.out,by first | exact Z4 _ _ | exact (Z4 _ _).drew⟩
theorem a1K (s:BY) (b:UInt8) (w:World) (hs:s.size<=1048700):
 Calls prog 95 #[.string s,.int .u8 b.toNat] w fun e w'=>(∃ g l,e=.returned (.slice (some ⟨g,0,none⟩) (L8 b s.data.toList).length l)/\w'.ownsRow w.heap.size 9 1 (.slice (some ⟨g,0,none⟩) (L8 b s.data.toList).length l) (L8 b s.data.toList).length (Dt (L8 b s.data.toList)))/\Bw w w':=by
 obtain ⟨z,F,C,B,A⟩:=info_parts info9;have hlen:s.data.toList.length=s.size:=I4;go_enter func95,ntmps95
 go_wp2_with fail
 go_loopw [5,6,7] (fun v fr i wr=>∃ (k f:Nat),k<=s.size/\f<=k/\i=.int .i64 k/\fr=.int .i64 f/\wr.ownsRow w.heap.size 9 1 v (D8 b (s.data.toList.take k)).1.length (Dt (D8 b (s.data.toList.take k)).1)/\Hid ((s.data.toList.take k).drop f=(D8 b (s.data.toList.take k)).2)/\Below w.heap.size w wr/\w.heap.size+1<=wr.heap.size) (fun _ _ i _=>s.size - (intOf i).toNat)
 case atStart=>exact ⟨0,0,D5 _,Y9 _,rfl,rfl,Ku _ #[] 0 x9 (D5 _) rfl,rfl,o7,I4⟩
 obtain ⟨k,f,hk,hf,rfl,rfl,c,d,h,I⟩:=hrel;have hL:(D8 b (s.data.toList.take k)).1.length<=k:=by
  have:=su b (s.data.toList.take k);rw [B_] at this;omega
 by_cases D:k<s.size;rotate_left
 · have L:Hid (s.data.toList.take k=s.data.toList):=u_ O0;have t:Hid (s.extract f s.size=Y2 (D8 b (s.data.toList.take k)).2):=qc (by rw [Cb,<- show k=s.size by omega];exact d.out);have H:Hid (L8 b s.data.toList=(D8 b (s.data.toList.take k)).1++[(D8 b (s.data.toList.take k)).2]):=by rw [L.out];rfl
   clear d;generalize D8 b (s.data.toList.take k)=st at*
   go_wp2_with (at_builtin;refine wpList_append_own _ rfl _ _ 22 rfl w.heap.size 9 z (.string ⟨#[]⟩) 1 16 underlying22 F C B A rfl O6 _ _ _ rfl (c.alloc _) ⟨wr.heap.size,0,none⟩ 1 1 [_] rfl rfl (cell_one_new _ _ _) (by intro u a;simp at a;subst a;rfl) (by unfold maxLen;omega) O0 U7 ?_;intro v' y n o _;obtain ⟨g,l,J⟩:=ql n O0;subst J)
   go_ret;have r:=(h.alloc h.size _).grown o U7 (fun j q=>(c.lt j q).1);have K:y.ownsRow w.heap.size 9 1 (vL (some (aA g 0)) (st.1.length+1) l) (st.1.length+1) (Dt (L8 b s.data.toList)):=by
    rw [H.out,xg,<- t.out];exact n
   have E:(L8 b s.data.toList).length=st.1.length+1:=by rw [H.out];simp
   refine ⟨⟨g,l,by rw [E];rfl,by rw [E];exact K⟩,r⟩
 have p:Hid (D8 b (s.data.toList.take (k+1))=cst b (D8 b (s.data.toList.take k)) s[k]):=by rw [take_snoc s k D,Qn];rfl
 have t:Hid (s.extract f k=Y2 (D8 b (s.data.toList.take k)).2):=qc (by rw [Cb];exact d.out);by_cases hc:s[k]=b
 · have e1:((s[k].toNat:Int)==(b.toNat:Int))=true:=by rw [hc];simp
   have m:Hid (cst b (D8 b (s.data.toList.take k)) s[k]=((D8 b (s.data.toList.take k)).1++[(D8 b (s.data.toList.take k)).2],[])):=by unfold cst;rw [if_pos hc];rfl
   have x:Hid ((s.data.toList.take (k+1)).drop (k+1)=[]):=zq U7;clear hc d;generalize D8 b (s.data.toList.take k)=st at*
   go_wp2_with (at_builtin;refine wpList_append_own _ rfl _ _ 22 rfl w.heap.size 9 z (.string ⟨#[]⟩) 1 16 underlying22 F C B A rfl O6 _ _ _ rfl (c.alloc _) ⟨wr.heap.size,0,none⟩ 1 1 [_] rfl rfl (cell_one_new _ _ _) (by intro u a;simp at a;subst a;rfl) (by unfold maxLen;omega) O0 U7 ?_;intro v' y n o _)
   go_roundw
   case rel=>
    have r:=(h.alloc h.size _).grown o U7 (fun j q=>(c.lt j q).1);refine ⟨k+1,k+1,O0,Y9 _,by go_num,by go_num,?_,?_,r,by have:=o.size;simp at this;omega⟩
    · rw [p.out,m.out,N9,xg,<- t.out];exact n
    rw [p.out,m.out];exact x.out
   case measure=>simp [intOf];omega
 have e1:((s[k].toNat:Int)==(b.toNat:Int))=false:=by
  simp only [n_];intro e;exact hc (Ei.1 O0)
 have m:Hid (cst b (D8 b (s.data.toList.take k)) s[k]=((D8 b (s.data.toList.take k)).1,(D8 b (s.data.toList.take k)).2++[s[k]])):=by unfold cst;rw [if_neg hc];rfl
 have x:Hid ((s.data.toList.take (k+1)).drop f=(s.data.toList.take k).drop f++[s[k]]):=by rw [take_snoc s k D,II U7];rfl
 clear hc;generalize D8 b (s.data.toList.take k)=st at*;go_wp2;go_roundw
 case rel=>
  refine ⟨k+1,f,O0,O0,by go_num,rfl,?_,?_,h,I⟩
  · rw [p.out,m.out];exact c
  rw [p.out,m.out,x.out,d.out];rfl
 case measure=>simp [intOf];omega
theorem own_ne {B B' e b size c n d:Nat} {v v':Value} {xs xs':List Value} (h:w.ownsRow B e size v n xs) (j:w.ownsRow B' b c v' d xs') (f:e≠b):v.ownBlock=none\/v.ownBlock≠v'.ownBlock:=by
 rcases h.2 with ⟨rfl,_⟩ | ⟨g,cap,cur,rfl,_,i,_⟩
 · exact .inl rfl
 rcases j.2 with ⟨rfl,_⟩ | ⟨g',cap',cur',rfl,_,a,_⟩
 · exact .inr (by simp [Value.ownBlock])
 refine .inr fun he=>?_;simp only [Value.ownBlock,jv] at he;subst he;rw [i] at a;simp only [jv,Obj.cells.injEq] at a;exact f a.2.1
theorem a0N (l:List UInt8) (w:World) (a:l.length<=1048700):
 Calls prog 98 #[.string (Y2 l)] w fun e w'=>(∃ t,e=.returned (.string (Y2 t))/\t.length<=l.length+1/\∀ q,l=X5 q->t=q)/\Bw w w':=by
 have:=c98 (Y2 l) w (by rw [J5];exact a);rw [J5] at this;exact this
theorem a1e (l:List UInt8) (w:World) (a:l.length<=1048700):
 Calls prog 96 #[.string (Y2 l),.int .i64 3] w fun e w'=>(∃ g b,e=.returned (.tuple #[.slice (some ⟨g,0,none⟩) 3 b,.string (Y2 (S9 l 3))])/\w.heap.size<=g/\Yb w' g (w_ l 3))/\Bw w w':=a2n (Y2 l) w (by rw [J5];exact a)
theorem VH {ms:List M3} {x:M3} {B:Nat} (h:∀ j,(ms.getD j H_).le B) (hx:x.le B) (j:Nat):((ms++[x]).getD j H_).le B:=by
 rcases Aw j ms.length with a | a | a
 · have:(ms++[x]).getD j H_=ms.getD j H_:=by simp [List.getD,I_ a]
   rw [this];exact h j
 · subst a;have:(ms++[x]).getD ms.length H_=x:=by simp [List.getD]
   rw [this];exact hx
 have:(ms++[x]).getD j H_=H_:=by simp [List.getD,Ec (show (ms++[x]).length<=j by simp;omega)]
 rw [this];exact ⟨D5 _,D5 _,D5 _⟩
theorem cell_grown {row:Option Nat} (c:w.grownBy w' row) {p:Addr} (a:p.block<w.heap.size) (b:some p.block≠row):w'.cell? p=w.cell? p:=by
 unfold World.cell?;rw [c.block p.block a b]
def a1D (l:List UInt8) (e:Ending) (w':World):Prop:=∃ (ms:List M3) (ok:Bool) (a:OA) (cap:Nat),e=.returned (.tuple #[.slice a ms.length cap,.bool ok])/\Pn w' a ms/\Va l ms ok
theorem c164 (s:BY) (w:World) (hs:s.size<=1048576):
 Calls prog 164 #[.string s] w fun e w'=>a1D s.data.toList e w'/\Bw w w':=by
 have hlen:s.data.toList.length=s.size:=I4;obtain ⟨i0,hi,hz0,hz1,hz2⟩:=info_parts LK;by_cases a2v:300<s.size
 · have n:Hid (Va s.data.toList [] false):=IB O0;go_enter func164,ntmps164;go_wp2;go_ret2;exact ⟨⟨[],false,_,_,rfl,.inl rfl,n.out⟩,o7⟩
 go_enter func164,ntmps164
 go_wp2_with fail
 refine (a1K s 10 _ O0).mono ?_;rintro e y ⟨⟨g,Y,rfl,U⟩,r⟩;have hx1:=o7.trans (r.mono I4);have hz1':w.heap.size+1<=y.heap.size:=by have:=r.size;simpa using this
 have hrow0:y.ownsRow w.heap.size 101 3 (vL (some (aW w 0)) 0 0) 0 (Xa []):=ownsRow_below (Ku _ #[] 0 x9 (D5 _) rfl) r;have a5j:y.ownsRow w.heap.size 9 1 (vL (some (aA g 0)) (L8 10 s.data.toList).length Y) (L8 10 s.data.toList).length (Dt (L8 10 s.data.toList)):=yg U I4;obtain ⟨hn1,hn2⟩:=Qi 10 s.data.toList;have HCS:=U0 (cut_small 10 s.data.toList);clear r U
 go_wp2_with fail
 generalize hLs:L8 10 s.data.toList=a at*;have E:=U0 hLs;clear hLs;go_loopw [4,6] (fun v i wr=>∃ (k:Nat) (ms:List M3),k+1<=a.length/\i=.int .i64 k/\ms.length=k/\Hid (BF s.data.toList ms k)/\Hid (∀ j,(ms.getD j H_).le 1048576)/\wr.ownsRow w.heap.size 101 3 v ms.length (Xa ms)/\wr.ownsRow w.heap.size 9 1 (.slice (some ⟨g,0,none⟩) a.length Y) a.length (Dt a)/\Below w.heap.size w wr/\w.heap.size+1<=wr.heap.size) (fun _ i _=>a.length - (intOf i).toNat)
 case atStart=>exact ⟨0,[],O0,rfl,rfl,yH _,(fun j=>⟨D5 _,D5 _,D5 _⟩),hrow0,a5j,hx1,hz1'⟩
 obtain ⟨k,ms,hk,rfl,a6x,N,J,h,P,X,hzr⟩:=hrel;subst a6x;obtain ⟨ao,co,hv⟩:=Dp h;subst hv;by_cases hlt:ms.length+1<a.length;rotate_left
 · obtain ⟨E1,E2⟩:=LM N.out rfl (by rw [E.out];omega) O0;have H:=U0 E1;have F:=U0 E2;clear E1 E2;obtain ⟨ao',cap',hv',C⟩:=Jp h;injection hv' with h1 h2 h3;subst h1 h3;have HAT:=U0 C;have hmm:ms.length<=1048576:=O0;have Z:=a1Y ao co ms wr J.out hmm C;clear C
   go_wp2_with fail
   refine Z.mono ?_;rintro e w5 ⟨rfl,W⟩;have D:=G7 X W;have a6y:=U0 (Ol HAT.out W);clear Z;by_cases hf:Di ms=s.data.toList
   · have n:=U0 (H.out hf);have m:(Y2 (Di ms)).toList=s.toList:=by rw [hf,ByteArray.toList_eq,ByteArray.toList_eq];rfl
     have e1:((Y2 (Di ms)).toList==s.toList)=true:=by simpa using m
     clear H F hf;go_wp2;go_ret2;exact ⟨⟨ms,true,_,_,rfl,a6y.out,n.out⟩,D⟩
   have n:=U0 (F.out hf);have m:¬ (Y2 (Di ms)).toList=s.toList:=by rw [ByteArray.toList_eq,ByteArray.toList_eq];simpa [Y2] using hf
   have e1:((Y2 (Di ms)).toList==s.toList)=false:=by simpa using m
   clear H F hf;go_wp2;go_ret2;exact ⟨⟨[],false,_,_,rfl,.inl rfl,n.out⟩,D.alloc D.size _⟩
 have R:=Eh P rfl;have l0:=R.2 ms.length O0;have hLl:=HCS.out ms.length;have a6z:=fun (t:List UInt8) ht=>parsed (l:=a.getD ms.length []) (t:=t) ht;generalize hL:a.getD ms.length []=L at*;have HL:=U0 hL;clear hL;have hiB:(ms.length:Int)<(a.length:Int):=O0
 go_wp2_with fail
 refine (a1e L _ O0).mono ?_;rintro e x ⟨⟨g2,cp2,rfl,hg2,o⟩,q⟩;have hB2:=G7 X q;have hown2:=ownsRow_below h q;have hrow2:=ownsRow_below P q;have hz2':=Q7 hzr q.size;have q1:x.cell? (aA g2 1)=some (vS (Y2 (O1 (S9 L 1)))):=o.2 1 (by simp [w_]);have q2:x.cell? (aA g2 2)=some (vS (Y2 (O1 (S9 L 2)))):=o.2 2 (by simp [w_]);have V:=o.1;have r1:=Yi L 1;have r2:=Yi L 2;have r3:=Yi L 3;have r1':=(X7 (S9 L 1)).1;have r2':=(X7 (S9 L 2)).1;generalize hA:O1 (S9 L 1)=A at*;generalize hBB:O1 (S9 L 2)=B at*;generalize hQ:S9 L 3=Q at*;clear hA hBB hQ o R l0
 go_wp2_with fail
 refine wp_region_held_drew (S:=(fun u=>u.cell? (aA g2 1)=some (vS (Y2 A))/\u.cell? (aA g2 2)=some (vS (Y2 B)))) J3 ?_ fun hH=>?_
 · ((try dsimp only);go_keep)
 refine tq 0 hH ?_;refine tq 1 hH ?_;refine tq 2 hH ?_;refine tq 3 hH ?_;refine tq 4 hH ?_;refine tq 5 hH ?_;refine tq 6 hH ?_;refine Y0 7 ?_;refine rq 8 fun K b=>?_;go_simp;refine (a0N Q _ O0).mono ?_;rintro e f ⟨⟨t,rfl,htl,htq⟩,hb3⟩;have d:Hid (Bw x f):=(Z4 _ _).drew.trans hb3;have e1:=(d.out.cell (p:=(aA g2 1)) (by exact V)).trans q1;have m:=(d.out.cell (p:=(aA g2 2)) (by exact V)).trans q2;have z:=ownsRow_below hown2 d.out;have O:=ownsRow_below hrow2 d.out;have a6Y:=d.out.size;have e1a:=past (by show g2<f.heap.size;omega) e1;have e2a:=past (by show g2<f.heap.size;omega) m
 go_wp2_with fail
 clear hH;refine VA b fun hH=>?_;clear b K;refine Y0 9 ?_;refine rq 10 fun K b=>?_;go_simp;clear hH;refine wF b fun hH=>?_;clear b K;refine rq 11 fun K b=>?_;refine Zi rfl (.tmp 31) (.tmp 41) 80 rfl w.heap.size 101 i0 (.agg #[vE,vE,vE]) 3 48 underlying80 hi hz0 hz1 hz2 rfl O6 _ _ _ rfl (z.alloc _) (aW f 0) 1 1 [_,_,_] rfl rfl (YV rfl _ _ _ _) (by intro u I;simp at I;rcases I with rfl | rfl | rfl <;> rfl) (by unfold maxLen;omega) O0 U7 ?_;intro v' w4 hown4 c;have hB4:=U0 ((((G7 hB2 d.out).alloc O0 _).grown c U7 (fun j hj=>(z.lt j hj).1)));have hrow4:=U0 ((O.alloc _).kept c (own_ne O z O6));have f1:=(cell_grown c (p:=(aA g2 1)) U7 (fun e=>by have:=(h.lt _ e.symm).2;simp at this;omega)).trans (e1a _);have f2:=(cell_grown c (p:=(aA g2 2)) U7 (fun e=>by have:=(h.lt _ e.symm).2;simp at this;omega)).trans (e2a _);have hz4:f.heap.size+1<=w4.heap.size:=by have:=c.size;simp at this;omega
 clear c;clear hH;refine VA b fun hH=>?_;clear b K;refine Y0 12 ?_;refine wpAnyH_done J3 ?_ _;clear hH;have HSO:=U0 (aJ N.out (by rw [E.out];exact hlt) (by rw [E.out,HL.out];exact a6z t htq));have HTX:Hid (∀ j,((ms++[(⟨Y2 A,Y2 B,Y2 t⟩:M3)]).getD j H_).le 1048576):=VH J.out ⟨by rw [J5];omega,by rw [J5];omega,by rw [J5];omega⟩;go_wp2;go_roundw
 case rel=>
  refine ⟨ms.length+1,ms++[(⟨Y2 A,Y2 B,Y2 t⟩:M3)],O0,by go_num,I4,HSO,HTX,?_,hrow4.out,hB4.out,O0⟩;rw [Ir,N9];exact hown4
 case measure=>simp [intOf];omega
end
section
variable {fs:List F2} {ms:List M3}
def Vr:BY:=⟨#[112,108,97,110]⟩
def Free (fs:List F2) (nm:BY):Prop:=∀ j,j<fs.length->(fs.getD j P8).nm≠nm
def Jm (fs:List F2) (ms:List M3):Prop:=∀ i,i<ms.length->Free fs (ms.getD i H_).nm
def Sj (fs:List F2) (ms:List M3):Prop:=
 (¬ J_ fs/\ms=[])\/(J_ fs/\Free fs Vr/\ms=[])\/
 (J_ fs/\∃ i,i<fs.length/\(fs.getD i P8).nm=Vr/\∃ ks ok,Va (fs.getD i P8).tx.data.toList ks ok/\((ok=true/\Jm fs ks/\ms=ks)\/(¬ (ok=true/\Jm fs ks)/\ms=[])))
theorem dN (h:J_ fs) {i j:Nat} (b:i<fs.length) (a:j<fs.length) (e:(fs.getD i P8).nm=(fs.getD j P8).nm):i=j:=by
 have hm:=T.ji h;rcases Aw i j with h1 | h1 | h1
 · have:=hm i j h1 a;rw [e,T.Yc] at this;cases this
 · exact h1
 have:=hm j i h1 b;rw [e,T.Yc] at this;cases this
theorem Jz {ns:List M3} (h:Sj fs ms) (k:Sj fs ns):ms=ns:=by
 rcases h with ⟨h1,rfl⟩ | ⟨h1,h2,rfl⟩ | ⟨h1,i,l,g,ks,ok,o,hr⟩
 · rcases k with ⟨_,rfl⟩ | ⟨a,_⟩ | ⟨a,_⟩
   · rfl
   · exact absurd a h1
   exact absurd a h1
 · rcases k with ⟨a,_⟩ | ⟨_,_,rfl⟩ | ⟨_,j,c,b,_⟩
   · exact absurd h1 a
   · rfl
   exact absurd b (h2 j c)
 rcases k with ⟨a,_⟩ | ⟨_,m,_⟩ | ⟨_,j,c,b,ks',ok',n,f⟩
 · exact absurd h1 a
 · exact absurd g (m i l)
 obtain rfl:=dN h1 l c (g.trans b.symm);obtain ⟨rfl,rfl⟩:=LH o n;rcases hr with ⟨e,a2,rfl⟩ | ⟨e,rfl⟩
 · rcases f with ⟨_,_,rfl⟩ | ⟨d,_⟩
   · rfl
   exact absurd ⟨e,a2⟩ d
 rcases f with ⟨d,p,_⟩ | ⟨_,rfl⟩
 · exact absurd ⟨d,p⟩ e
 rfl
theorem Tq {l:List UInt8} {ok:Bool} (h:Va l ms ok):ms.length<=300/\∀ i,(ms.getD i H_).le 300:=by
 cases ok
 · rw [(h.2 rfl).1];exact ⟨D5 _,fun i=>⟨D5 _,D5 _,D5 _⟩⟩
 obtain ⟨h1,h2,h3⟩:=h.1 rfl;have:=VF ms;rw [h2] at this;exact ⟨O0,Yv fun i a=>zO (oJ (Lj h1) a)⟩
theorem vG (h:Sj fs ms):ms.length<=300:=by
 rcases h with ⟨_,rfl⟩ | ⟨_,_,rfl⟩ | ⟨_,i,hi,hn,ks,ok,a,hr⟩
 · exact D5 _
 · exact D5 _
 rcases hr with ⟨_,_,rfl⟩ | ⟨_,rfl⟩
 · exact (Tq a).1
 exact D5 _
