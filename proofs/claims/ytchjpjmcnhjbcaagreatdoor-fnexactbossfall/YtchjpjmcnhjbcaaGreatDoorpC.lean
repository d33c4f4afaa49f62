import Derived.Test.YtchjpjmcnhjbcaaGreatDoorpA
set_option linter.unusedVariables false
set_option maxHeartbeats 8000000
set_option maxRecDepth 100000
namespace Go.Proofs.YtchjpjmcnhjbcaaGreatDoor.G
open Proofs.Tryz Go.RowKit
open T (Fa)
section
variable {is js ms:List M3} {base i k:Nat} {x y:M3} {b s:BY} {R S a l q r t:List UInt8}
def stepM (ms:List M3) (k:Nat):Bool:=Ze (ms.getD k D_)&&(decide (k=0) || Op.bytesLess (ms.getD (k - 1) D_).nm.toList (ms.getD k D_).nm.toList)
def jd (ms:List M3):Bool:=decide (ms.length<=30)&&(List.range ms.length).all (stepM ms)
theorem Ui (ms:List M3):jd ms=true↔ms.length<=30/\∀ k,k<ms.length->stepM ms k=true:=by simp [jd]
def Zh (ms:List M3):List UInt8:=if jd ms=true/\(ms.flatMap m_).length<=300 then ms.flatMap m_ else []
theorem Nr (h:k<ms.length) (a:stepM ms k=false):jd ms=false:=by
 cases hp:jd ms
 · rfl
 have:=((Ui ms).1 hp).2 k h;rw [a] at this;cases this
theorem Jr (h:k<ms.length) (a:stepM ms k=false):Zh ms=[]:=by
 unfold Zh;rw [if_neg (by simp [Nr h a])]
theorem oN (h:30<ms.length):Zh ms=[]:=by
 unfold Zh;rw [if_neg (by rw [Ui];omega)]
theorem Et (h:Ze x=true):x.nm.size<=20/\x.tl.size<=20/\x.ar.size<=300:=by
 simp [Ze,Y5] at h;exact ⟨h.1.1.1.2,h.1.2.1.2,O0⟩
theorem ve (h:s.size<=300):(J3 (P5 s.data.toList)).size<=902:=by
 have:=UM s.data.toList;have e:s.data.toList.length=s.size:=X4;rw [I5];omega
theorem step_ok (h:stepM ms k=true):Ze (ms.getD k D_)=true:=by
 unfold stepM at h;cases hx:Ze (ms.getD k D_)
 · rw [hx] at h;cases h
 rfl
theorem MQ (h:Ze x=true):(m_ x).length<=950:=by
 obtain ⟨h1,h2,b⟩:=Et h;have a:=ve b;rw [I5] at a;have e1:x.nm.data.toList.length=x.nm.size:=X4;have c:x.tl.data.toList.length=x.tl.size:=X4;simp only [m_,Oc,D9,o_,Ee,e1,c];omega
theorem TA (a:k<ms.length):(ms.take (k+1)).flatMap m_=(ms.take k).flatMap m_++m_ (ms.getD k D_):=by
 have e:ms.getD k D_=ms[k]:=by simp [a]
 rw [Ey a,Ns,e];simp
theorem FN:∀ k,k<=ms.length->(∀ j,j<k->stepM ms j=true)->((ms.take k).flatMap m_).length<=950*k:=by
 intro k
 induction k with
 | zero=>intro _ _;simp
 | succ k ih=>
  intro hk hd;rw [TA O0,D9];have:=ih O0 (fun j hj=>hd j O0);have:=MQ (step_ok (hd k O0));omega
theorem eG {a:BY} (h:a=b):Value.string a=.string b:=by rw [h]
theorem RJ (l:List UInt8) (x:M3):J3 l++(⟨#[109,97,107,101,32]⟩:BY)++x.nm++(⟨#[32]⟩:BY)++x.tl++(⟨#[32]⟩:BY)++J3 (P5 x.ar.data.toList)++(⟨#[10]⟩:BY)=J3 (l++m_ x):=by
 apply Df;simp [J3,m_,Oc]
theorem a3f (a:OA) (cap:Nat) (is:List M3) (w:World) (X:∀ i,(is.getD i D_).le 1048576) (hl:is.length<=1048576) (hat:Bo w a is):
 Calls prog 242 #[.slice a is.length cap] w fun e w'=>e=.returned (.string (J3 (Zh is)))/\Bw w w':=by
 obtain ⟨b,off,hc⟩:=Ej hat;have HC:=U0 hc;clear hc hat;by_cases hbig:30<is.length
 · go_enter func242,ntmps242;go_wp2;go_ret;exact ⟨Qj (by rw [oN hbig];rfl),Z4 _ _⟩
 go_enter func242,ntmps242
 go_wp2_with fail
 go_loopw [3,4] (fun o i wr=>∃ (k:Nat),k<=is.length/\i=.int .i64 k/\o=.string (J3 ((is.take k).flatMap m_))/\Below w.heap.size w wr/\Hid (∀ j,j<k->stepM is j=true)) (fun _ i _=>is.length - (RowKit.intOf i).toNat)
 case atStart=>exact ⟨0,J4 _,rfl,rfl,Z4 _ _,fun j h=>absurd h (J8 _)⟩
 obtain ⟨k,hk,rfl,rfl,s,L⟩:=hrel;have hL:(J3 ((is.take k).flatMap m_)).size<=950*30:=by
  have:=FN k hk L.out;rw [I5];omega
 by_cases t:k<is.length;rotate_left
 · have hp:=(Ui is).2 ⟨O0,fun j hj=>L.out j O0⟩;have O:Hid ((is.take k).flatMap m_=is.flatMap m_):=by rw [l_ O0];rfl
   have HV:Hid (Zh is=if (is.flatMap m_).length<=300 then is.flatMap m_ else []):=by unfold Zh;simp only [hp,true_and];trivial
   clear hp;rw [O.out] at hL ⊢;generalize is.flatMap m_=l at*;by_cases a4l:300<(J3 l).size
   · go_wp2;go_ret;exact ⟨Qj (by rw [HV.out,I7 (by rw [I5] at a4l;omega)];rfl),s⟩
   go_wp2;go_ret;exact ⟨Qj (by rw [HV.out,X7 (by rw [I5] at a4l;omega)]),s⟩
 obtain ⟨ha,J,I⟩:=Cc HC.out t;subst ha;have P:=U0 s;have g0:=(s.cell (p:=⟨b,off+k*3,none⟩) J).trans (I k t).1;have g1:=(s.cell (p:=⟨b,off+k*3+1,none⟩) J).trans (I k t).2.1;have g2:=(s.cell (p:=⟨b,off+k*3+2,none⟩) J).trans (I k t).2.2;have H:Hid ((is.getD k D_).le 1048700):=⟨G7 (X k).1 O0,G7 (X k).2.1 O0,G7 (X k).2.2 O0⟩;have O:=U0 (TA t);generalize (is.take k).flatMap m_=l at*;rcases su k with h0 | h0
 · subst h0;have m:Hid (stepM is 0=Ze (is.getD 0 D_)):=by simp [stepM,Hid]
   simp only [Fq,En] at g0 g1 g2;generalize is.getD 0 D_=x at*;clear I s
   go_wp2_with fail
   have F:Hid (Bw w (wr.alloc (.cells #[vS x.nm,vS x.tl,vS x.ar] 135))):=P.out.alloc P.out.size _;have m0:(wr.alloc (.cells #[vS x.nm,vS x.tl,vS x.ar] 135)).cell? ⟨wr.heap.size,0,none⟩=some (vS x.nm):=X4;have D:(wr.alloc (.cells #[vS x.nm,vS x.tl,vS x.ar] 135)).cell? ⟨wr.heap.size,1,none⟩=some (vS x.tl):=X4;have C:(wr.alloc (.cells #[vS x.nm,vS x.tl,vS x.ar] 135)).cell? ⟨wr.heap.size,2,none⟩=some (vS x.ar):=X4;have d:wr.heap.size<(wr.alloc (.cells #[vS x.nm,vS x.tl,vS x.ar] 135)).heap.size:=X4;clear g0 g1 g2;generalize (wr.alloc (.cells #[vS x.nm,vS x.tl,vS x.ar] 135))=W at*;cases hx:Ze x
   · refine wp_region_held_drew (S:=(fun u=>u.cell? ⟨wr.heap.size,0,none⟩=some (vS x.nm)/\u.cell? ⟨wr.heap.size,1,none⟩=some (vS x.tl)/\u.cell? ⟨wr.heap.size,2,none⟩=some (vS x.ar))) Y2 ?_ fun hH=>?_
     · ((try dsimp only);go_keep)
     refine Y0 0 ?_;refine rq 1 fun K f=>?_;go_simp;refine (UB hx _ H.out).mono ?_;rintro e n ⟨rfl,r⟩;have c:Hid (Bw W n):=((Z4 _ _).drew).trans r;have B:=(c.out.cell (p:=⟨wr.heap.size,0,none⟩) d).trans m0;have A:=(c.out.cell (p:=⟨wr.heap.size,1,none⟩) d).trans D;have z:=(c.out.cell (p:=⟨wr.heap.size,2,none⟩) d).trans C
     go_wp2_with fail
     clear hH;refine PL f fun hH=>?_;clear f K;refine tq 2 hH ?_;refine Y0 3 ?_;refine uq 4 hH ?_;refine E5 5 ?_;refine uq 6 hH ?_;refine E5 7 ?_;refine uq 8 hH ?_;refine E5 9 ?_;refine uq 10 hH ?_;refine E5 11 ?_;refine uq 12 hH ?_;refine E5 13 ?_;refine uq 14 hH ?_;refine E5 15 ?_;refine uq 16 hH ?_;refine Y0 17 ?_;refine wpAnyH_done Y2 ?_ _;have g:=X5 F.out c.out;rw [hx] at m;clear hH;go_wp2;go_ret;exact ⟨Qj (by rw [Jr t m.out];rfl),g⟩
   refine wp_region_held_drew (S:=(fun u=>u.cell? ⟨wr.heap.size,0,none⟩=some (vS x.nm)/\u.cell? ⟨wr.heap.size,1,none⟩=some (vS x.tl)/\u.cell? ⟨wr.heap.size,2,none⟩=some (vS x.ar))) Y2 ?_ fun hH=>?_
   · ((try dsimp only);go_keep)
   refine Y0 0 ?_;refine rq 1 fun K f=>?_;go_simp;refine (UB hx _ H.out).mono ?_;rintro e n ⟨rfl,r⟩;have c:Hid (Bw W n):=((Z4 _ _).drew).trans r;have B:=(c.out.cell (p:=⟨wr.heap.size,0,none⟩) d).trans m0;have A:=(c.out.cell (p:=⟨wr.heap.size,1,none⟩) d).trans D;have z:=(c.out.cell (p:=⟨wr.heap.size,2,none⟩) d).trans C
   go_wp2_with fail
   clear hH;refine PL f fun hH=>?_;clear f K;refine tq 2 hH ?_;refine Y0 3 ?_;refine tq 4 hH ?_;refine Y0 5 ?_;refine tq 6 hH ?_;refine E5 7 ?_;refine uq 8 hH ?_;refine E5 9 ?_;refine uq 10 hH ?_;refine E5 11 ?_;refine uq 12 hH ?_;refine E5 13 ?_;refine uq 14 hH ?_;refine E5 15 ?_;refine tq 16 hH ?_;refine Y0 17 ?_;refine wpAnyH_done Y2 ?_ _;have g:=X5 F.out c.out;rw [hx] at m;clear hH;have Y:Hid (∀ j,j<0+1->stepM is j=true):=fun j hj=>by
    rcases Q7 j 0 with h | h
    · exact L.out j h
    obtain rfl:j=0:=O0;exact m.out
   have E:=O9 d c.out.size;obtain ⟨j1,j2,U⟩:=Et hx;have s3:=ve U;have k0:¬ 9223372036854775807<(J3 l).size+5:=O0;have k1:¬ 9223372036854775807<(J3 l).size+5+x.nm.size:=O0;have k2:¬ 9223372036854775807<(J3 l).size+5+x.nm.size+1:=O0;have k2':¬ 9223372036854775807<=(J3 l).size+5+x.nm.size:=O0;have k3:¬ 9223372036854775807<(J3 l).size+5+x.nm.size+1+x.tl.size:=O0;have k4:¬ 9223372036854775807<(J3 l).size+5+x.nm.size+1+x.tl.size+1:=O0;have k4':¬ 9223372036854775807<=(J3 l).size+5+x.nm.size+1+x.tl.size:=O0;have k5:¬ 9223372036854775807<(J3 l).size+5+x.nm.size+1+x.tl.size+1+(J3 (P5 x.ar.data.toList)).size:=O0;have k6:¬ 9223372036854775807<(J3 l).size+5+x.nm.size+1+x.tl.size+1+(J3 (P5 x.ar.data.toList)).size+1:=O0;have k6':¬ 9223372036854775807<=(J3 l).size+5+x.nm.size+1+x.tl.size+1+(J3 (P5 x.ar.data.toList)).size:=O0;have V:x.ar.size<=1048700:=O0
   go_wp2_with fail
   go_region_held3 (fun u=>u.cell? ⟨wr.heap.size,0,none⟩=some (vS x.nm)/\u.cell? ⟨wr.heap.size,1,none⟩=some (vS x.tl)/\u.cell? ⟨wr.heap.size,2,none⟩=some (vS x.ar)) (go_keep) (first | (go_at_call 187;refine (JG x.ar _ V).mono ?_;rintro e Q ⟨rfl,v⟩;have HB2:Hid (Bw w Q):=g.trans (((Z4 _ _).drew.trans v).mono g.size);have e0:=(v.cell (p:=⟨wr.heap.size,0,none⟩) (by simpa using E)).trans B;have e1:=(v.cell (p:=⟨wr.heap.size,1,none⟩) (by simpa using E)).trans A;have Z:=(v.cell (p:=⟨wr.heap.size,2,none⟩) (by simpa using E)).trans z))
   all_goals go_wp2
   all_goals go_roundw
   all_goals first
    | exact ⟨0+1,O0,by go_num,eG (by rw [O.out];exact RJ l x),HB2.out,Y⟩
    | (simp [RowKit.intOf];omega)
 obtain ⟨q,hq⟩:∃ q,q+1=k:=⟨k - 1,O0⟩;have g3':=(s.cell (p:=⟨b,off+q*3,none⟩) J).trans (I q O0).1;have a5r:=O9 J s.size;have m:Hid (stepM is k=(Ze (is.getD k D_)&&Op.bytesLess (is.getD q D_).nm.toList (is.getD k D_).nm.toList)):=by
  have e1:decide (k=0)=false:=S9 O0;have Z:k - 1=q:=O0;unfold stepM;rw [e1,Z];rfl
 have hm0:(0:Int)<(k:Int):=O0;have hm1:=C_ hm0;generalize is.getD k D_=x at*;generalize is.getD q D_=y at*;have hwr:IntKind.i64.wrap ((k:Int) - 1)=(q:Int):=by rw [show (k:Int) - 1=(q:Int) by omega];exact Fa q O0
 have hql:(q:Int)<(is.length:Int):=O0;clear hq;clear I s
 go_wp2_with fail
 have F:Hid (Bw w (wr.alloc (.cells #[vS x.nm,vS x.tl,vS x.ar] 135))):=P.out.alloc P.out.size _;have m0:(wr.alloc (.cells #[vS x.nm,vS x.tl,vS x.ar] 135)).cell? ⟨wr.heap.size,0,none⟩=some (vS x.nm):=X4;have D:(wr.alloc (.cells #[vS x.nm,vS x.tl,vS x.ar] 135)).cell? ⟨wr.heap.size,1,none⟩=some (vS x.tl):=X4;have C:(wr.alloc (.cells #[vS x.nm,vS x.tl,vS x.ar] 135)).cell? ⟨wr.heap.size,2,none⟩=some (vS x.ar):=X4;have d:wr.heap.size<(wr.alloc (.cells #[vS x.nm,vS x.tl,vS x.ar] 135)).heap.size:=X4;have N:=Nat.lt_trans a5r d;have g3:(wr.alloc (.cells #[vS x.nm,vS x.tl,vS x.ar] 135)).cell? ⟨b,off+q*3,none⟩=some (vS y.nm):=(Qh _ _ ⟨b,off+q*3,none⟩ a5r).trans g3';clear g3';clear g0 g1 g2;generalize (wr.alloc (.cells #[vS x.nm,vS x.tl,vS x.ar] 135))=W at*;cases hx:Ze x
 · cases hy:Op.bytesLess y.nm.toList x.nm.toList
   · refine wp_region_held_drew (S:=(fun u=>u.cell? ⟨wr.heap.size,0,none⟩=some (vS x.nm)/\u.cell? ⟨wr.heap.size,1,none⟩=some (vS x.tl)/\u.cell? ⟨wr.heap.size,2,none⟩=some (vS x.ar)/\u.cell? ⟨b,off+q*3,none⟩=some (vS y.nm))) Y2 ?_ fun hH=>?_
     · ((try dsimp only);go_keep)
     refine Y0 0 ?_;refine rq 1 fun K f=>?_;go_simp;refine (UB hx _ H.out).mono ?_;rintro e n ⟨rfl,r⟩;have c:Hid (Bw W n):=((Z4 _ _).drew).trans r;have B:=(c.out.cell (p:=⟨wr.heap.size,0,none⟩) d).trans m0;have A:=(c.out.cell (p:=⟨wr.heap.size,1,none⟩) d).trans D;have z:=(c.out.cell (p:=⟨wr.heap.size,2,none⟩) d).trans C;have R:=(c.out.cell (p:=⟨b,off+q*3,none⟩) N).trans g3
     go_wp2_with fail
     clear hH;refine PL f fun hH=>?_;clear f K;refine tq 2 hH ?_;refine Y0 3 ?_;refine uq 4 hH ?_;refine E5 5 ?_;refine uq 6 hH ?_;refine E5 7 ?_;refine uq 8 hH ?_;refine E5 9 ?_;refine uq 10 hH ?_;refine E5 11 ?_;refine uq 12 hH ?_;refine E5 13 ?_;refine uq 14 hH ?_;refine E5 15 ?_;refine uq 16 hH ?_;refine Y0 17 ?_;refine wpAnyH_done Y2 ?_ _;have g:=X5 F.out c.out;rw [hx,hy] at m;clear hH;go_wp2;go_ret;exact ⟨Qj (by rw [Jr t m.out];rfl),g⟩
   refine wp_region_held_drew (S:=(fun u=>u.cell? ⟨wr.heap.size,0,none⟩=some (vS x.nm)/\u.cell? ⟨wr.heap.size,1,none⟩=some (vS x.tl)/\u.cell? ⟨wr.heap.size,2,none⟩=some (vS x.ar)/\u.cell? ⟨b,off+q*3,none⟩=some (vS y.nm))) Y2 ?_ fun hH=>?_
   · ((try dsimp only);go_keep)
   refine Y0 0 ?_;refine rq 1 fun K f=>?_;go_simp;refine (UB hx _ H.out).mono ?_;rintro e n ⟨rfl,r⟩;have c:Hid (Bw W n):=((Z4 _ _).drew).trans r;have B:=(c.out.cell (p:=⟨wr.heap.size,0,none⟩) d).trans m0;have A:=(c.out.cell (p:=⟨wr.heap.size,1,none⟩) d).trans D;have z:=(c.out.cell (p:=⟨wr.heap.size,2,none⟩) d).trans C;have R:=(c.out.cell (p:=⟨b,off+q*3,none⟩) N).trans g3
   go_wp2_with fail
   clear hH;refine PL f fun hH=>?_;clear f K;refine tq 2 hH ?_;refine Y0 3 ?_;refine uq 4 hH ?_;refine E5 5 ?_;refine uq 6 hH ?_;refine E5 7 ?_;refine uq 8 hH ?_;refine E5 9 ?_;refine uq 10 hH ?_;refine E5 11 ?_;refine uq 12 hH ?_;refine E5 13 ?_;refine uq 14 hH ?_;refine E5 15 ?_;refine uq 16 hH ?_;refine Y0 17 ?_;refine wpAnyH_done Y2 ?_ _;have g:=X5 F.out c.out;rw [hx,hy] at m;clear hH;go_wp2;go_ret;exact ⟨Qj (by rw [Jr t m.out];rfl),g⟩
 cases hy:Op.bytesLess y.nm.toList x.nm.toList
 · refine wp_region_held_drew (S:=(fun u=>u.cell? ⟨wr.heap.size,0,none⟩=some (vS x.nm)/\u.cell? ⟨wr.heap.size,1,none⟩=some (vS x.tl)/\u.cell? ⟨wr.heap.size,2,none⟩=some (vS x.ar)/\u.cell? ⟨b,off+q*3,none⟩=some (vS y.nm))) Y2 ?_ fun hH=>?_
   · ((try dsimp only);go_keep)
   refine Y0 0 ?_;refine rq 1 fun K f=>?_;go_simp;refine (UB hx _ H.out).mono ?_;rintro e n ⟨rfl,r⟩;have c:Hid (Bw W n):=((Z4 _ _).drew).trans r;have B:=(c.out.cell (p:=⟨wr.heap.size,0,none⟩) d).trans m0;have A:=(c.out.cell (p:=⟨wr.heap.size,1,none⟩) d).trans D;have z:=(c.out.cell (p:=⟨wr.heap.size,2,none⟩) d).trans C;have R:=(c.out.cell (p:=⟨b,off+q*3,none⟩) N).trans g3
   go_wp2_with fail
   clear hH;refine PL f fun hH=>?_;clear f K;refine tq 2 hH ?_;refine Y0 3 ?_;refine tq 4 hH ?_;refine Y0 5 ?_;refine tq 6 hH ?_;refine Y0 7 ?_;refine tq 8 hH ?_;refine Y0 9 ?_;refine tq 10 hH ?_;refine Y0 11 ?_;refine tq 12 hH ?_;refine Y0 13 ?_;refine tq 14 hH ?_;refine Y0 15 ?_;refine tq 16 hH ?_;refine Y0 17 ?_;refine wpAnyH_done Y2 ?_ _;have g:=X5 F.out c.out;rw [hx,hy] at m;clear hH;go_wp2;go_ret;exact ⟨Qj (by rw [Jr t m.out];rfl),g⟩
 refine wp_region_held_drew (S:=(fun u=>u.cell? ⟨wr.heap.size,0,none⟩=some (vS x.nm)/\u.cell? ⟨wr.heap.size,1,none⟩=some (vS x.tl)/\u.cell? ⟨wr.heap.size,2,none⟩=some (vS x.ar)/\u.cell? ⟨b,off+q*3,none⟩=some (vS y.nm))) Y2 ?_ fun hH=>?_
 · ((try dsimp only);go_keep)
 refine Y0 0 ?_;refine rq 1 fun K f=>?_;go_simp;refine (UB hx _ H.out).mono ?_;rintro e n ⟨rfl,r⟩;have c:Hid (Bw W n):=((Z4 _ _).drew).trans r;have B:=(c.out.cell (p:=⟨wr.heap.size,0,none⟩) d).trans m0;have A:=(c.out.cell (p:=⟨wr.heap.size,1,none⟩) d).trans D;have z:=(c.out.cell (p:=⟨wr.heap.size,2,none⟩) d).trans C;have R:=(c.out.cell (p:=⟨b,off+q*3,none⟩) N).trans g3
 go_wp2_with fail
 clear hH;refine PL f fun hH=>?_;clear f K;refine tq 2 hH ?_;refine Y0 3 ?_;refine tq 4 hH ?_;refine Y0 5 ?_;refine tq 6 hH ?_;refine Y0 7 ?_;refine tq 8 hH ?_;refine Y0 9 ?_;refine tq 10 hH ?_;refine Y0 11 ?_;refine tq 12 hH ?_;refine Y0 13 ?_;refine tq 14 hH ?_;refine Y0 15 ?_;refine tq 16 hH ?_;refine Y0 17 ?_;refine wpAnyH_done Y2 ?_ _;have g:=X5 F.out c.out;rw [hx,hy] at m;clear hH;have Y:Hid (∀ j,j<k+1->stepM is j=true):=fun j hj=>by
  rcases Q7 j k with h | h
  · exact L.out j h
  obtain rfl:j=k:=O0;exact m.out
 have E:=O9 d c.out.size;obtain ⟨j1,j2,U⟩:=Et hx;have s3:=ve U;have k0:¬ 9223372036854775807<(J3 l).size+5:=O0;have k1:¬ 9223372036854775807<(J3 l).size+5+x.nm.size:=O0;have k2:¬ 9223372036854775807<(J3 l).size+5+x.nm.size+1:=O0;have k2':¬ 9223372036854775807<=(J3 l).size+5+x.nm.size:=O0;have k3:¬ 9223372036854775807<(J3 l).size+5+x.nm.size+1+x.tl.size:=O0;have k4:¬ 9223372036854775807<(J3 l).size+5+x.nm.size+1+x.tl.size+1:=O0;have k4':¬ 9223372036854775807<=(J3 l).size+5+x.nm.size+1+x.tl.size:=O0;have k5:¬ 9223372036854775807<(J3 l).size+5+x.nm.size+1+x.tl.size+1+(J3 (P5 x.ar.data.toList)).size:=O0;have k6:¬ 9223372036854775807<(J3 l).size+5+x.nm.size+1+x.tl.size+1+(J3 (P5 x.ar.data.toList)).size+1:=O0;have k6':¬ 9223372036854775807<=(J3 l).size+5+x.nm.size+1+x.tl.size+1+(J3 (P5 x.ar.data.toList)).size:=O0;have V:x.ar.size<=1048700:=O0
 go_wp2_with fail
 go_region_held3 (fun u=>u.cell? ⟨wr.heap.size,0,none⟩=some (vS x.nm)/\u.cell? ⟨wr.heap.size,1,none⟩=some (vS x.tl)/\u.cell? ⟨wr.heap.size,2,none⟩=some (vS x.ar)) (go_keep) (first | (go_at_call 187;refine (JG x.ar _ V).mono ?_;rintro e Q ⟨rfl,v⟩;have HB2:Hid (Bw w Q):=g.trans (((Z4 _ _).drew.trans v).mono g.size);have e0:=(v.cell (p:=⟨wr.heap.size,0,none⟩) (by simpa using E)).trans B;have e1:=(v.cell (p:=⟨wr.heap.size,1,none⟩) (by simpa using E)).trans A;have Z:=(v.cell (p:=⟨wr.heap.size,2,none⟩) (by simpa using E)).trans z))
 all_goals go_wp2
 all_goals go_roundw
 all_goals first
  | exact ⟨k+1,O0,by go_num,eG (by rw [O.out];exact RJ l x),HB2.out,Y⟩
  | (simp [RowKit.intOf];omega)
def Ff (x:M3):List UInt8:=[109,97,107,101]++32::Oc x
theorem Ri (x:M3):m_ x=Ff x++[10]:=rfl
theorem qp (h:Ze x=true):(10:UInt8)∉Ff x:=by
 obtain ⟨h1,h2,_⟩:=jh h;unfold Ff;rw [Ac];simp only [Yg,Jd,Rl];refine ⟨o6,o6,(L_ h1).2,o6,(L_ h2).2,o6,Ti _⟩
theorem dQ (hx:Ze x=true) (a:Ze y=true) (h:Ff x=Ff y):x=y:=by
 unfold Ff at h;exact OC hx a (by simpa using h)
theorem ZC (_hy:Ze y=true):l=Ff y↔O1 l=[109,97,107,101]/\Y1 l=Oc y:=by
 constructor
 · rintro rfl;exact J7 o6
 rintro ⟨h1,h2⟩;by_cases hm:(32:UInt8)∈l
 · have:=(Ol hm).1;rw [h1,h2] at this;exact this
 rw [(Oi hm).2] at h2;exact absurd h2.symm (FK y)
theorem iT (hx:Ze x=true) (a:Ze y=true) (h:m_ x++r=m_ y++q):x=y/\r=q:=by
 rw [Ri,Ri,iq,iq] at h;obtain ⟨h1,h2⟩:=oJ (qp hx) (qp a) h;exact ⟨dQ hx a h1,h2⟩
theorem JD (x:M3):m_ x≠[]:=by rw [Ri];simp
theorem NC (b:is.all Ze=true) (a:js.all Ze=true) (h:is.flatMap m_++R=js.flatMap m_):∃ r,R=r.flatMap m_/\js=is++r:=by
 induction is generalizing js with
 | nil=>exact ⟨js,by simpa using h,rfl⟩
 | cons x is ih=>
  simp only [Vl,V_] at b
  cases js with
  | nil=>
   have:=JD x;simp at h;exact absurd h.1 this
  | cons y js=>
   simp only [Vl,V_] at a;simp only [vg,iq] at h;obtain ⟨rfl,h2⟩:=iT b.1 a.1 h;obtain ⟨r,hr,hl⟩:=ih b.2 a.2 h2;exact ⟨r,hr,by rw [hl];rfl⟩
theorem aC (b:is.all Ze=true) (a:js.all Ze=true) (h:is.flatMap m_=js.flatMap m_):is=js:=by
 obtain ⟨r,hr,hl⟩:=NC (R:=[]) b a (by simpa using h)
 cases r with
 | nil=>simpa using hl.symm
 | cons y r=>
  have:=JD y;simp at hr;exact absurd hr.1 this
theorem WG (is:List M3):is.length<=(is.flatMap m_).length:=by
 induction is with
 | nil=>simp
 | cons x r ih=>
  have:1<=(m_ x).length:=pq.2 (JD x);simp only [vg,D9,o_];omega
theorem Zi (h:jd ms=true):ms.all Ze=true:=by
 rw [Jo];intro x hx;obtain ⟨k,a,e⟩:=Zd hx;have:=step_ok (((Ui ms).1 h).2 k a);rw [List.getD,Z8 a] at this;rw [<- e];exact this
def La (l:List UInt8) (is:List M3) (ok:Bool):Prop:=(ok=true->jd is=true/\is.flatMap m_=l/\l.length<=300)/\(ok=false->is=[]/\∀ js,jd js=true->js.flatMap m_=l->300<l.length)
theorem lI {a b:Bool} (h:La l is a) (k:La l js b):is=js/\a=b:=by
 cases a <;> cases b
 · exact ⟨(h.2 rfl).1.trans (k.2 rfl).1.symm,rfl⟩
 · obtain ⟨d,c,e⟩:=k.1 rfl;have:=(h.2 rfl).2 js d c;omega
 · obtain ⟨d,c,e⟩:=h.1 rfl;have:=(k.2 rfl).2 is d c;omega
 obtain ⟨d,c,e⟩:=k.1 rfl;obtain ⟨h1,h2,h3⟩:=h.1 rfl;exact ⟨aC (Zi h1) (Zi d) (h2.trans c.symm),rfl⟩
def Way (l:List UInt8) (is:List M3) (r:List UInt8):Prop:=l=is.flatMap m_++r/\is.all Ze=true
theorem vM (l:List UInt8):Way l [] l:=⟨rfl,rfl⟩
theorem jP (h:Way l is (a++10::r)) (hx:Ze x=true/\a=Ff x):Way l (is++[x]) r:=by
 refine ⟨?_,by rw [Pn,h.2];simp [hx.1]⟩;rw [h.1,Ns,hx.2];simp [Ri]
theorem jC (h:Way l is r) (hr:r≠[]) (d:∀ y q,Ze y=true->r≠Ff y++10::q):La l [] false:=by
 refine ⟨(fun h=>by cases h),fun _=>⟨rfl,fun js b e=>?_⟩⟩;exfalso;obtain ⟨q,a,hl⟩:=NC h.2 (Zi b) (h.1.symm.trans e.symm)
 cases q with
 | nil=>exact hr a
 | cons y q=>
  have c:Ze y=true:=by
   have:=(Zi b);rw [hl,Pn,Vl] at this;simp only [V_] at this;exact this.2.1
  apply d y (q.flatMap m_) c;rw [a,vg,Ri,iq];rfl
theorem NW (h:Way l is []) (c:l.length<=300):(jd is=true->La l is true)/\(jd is=false->La l [] false):=by
 have e:l=is.flatMap m_:=by simpa using h.1
 refine ⟨fun a=>⟨fun _=>⟨a,e.symm,c⟩,(fun h=>by cases h)⟩,fun a=>⟨(fun h=>by cases h),fun _=>⟨rfl,fun js b d=>?_⟩⟩⟩;have:=aC (Zi b) h.2 (d.trans e);rw [this,a] at b;cases b
theorem XB (h:300<l.length):La l [] false:=⟨(fun h=>by cases h),fun _=>⟨rfl,fun _ _ _=>h⟩⟩
theorem iK (h:ms.all Ze=true) (a:i<ms.length):Ze (ms.getD i D_)=true:=by
 rw [List.getD,Z8 a];exact Jo.1 h _ (Bj a)
theorem zQ (h:Ze x=true):x.le 300:=by
 obtain ⟨h1,h2,a⟩:=Et h;exact ⟨O0,O0,a⟩
theorem UU (h:Way l is r):is.length+r.length<=l.length/\∀ i,(is.getD i D_).le 300:=by
 have h1:=WG is;have h2:=U6 List.length h.1;rw [D9] at h2;exact ⟨O0,jw fun i a=>zQ (iK h.2 a)⟩
def Oa (is:List M3):List Value:=is.flatMap fun x=>[.string x.nm,.string x.tl,.string x.ar]
theorem Us (is:List M3) (x:M3):Oa (is++[x])=Oa is++[.string x.nm,.string x.tl,.string x.ar]:=by simp [Oa]
theorem zG (is:List M3) (i:Nat) (h:i<is.length):(Oa is)[i*3]?=some (.string (is.getD i D_).nm)/\(Oa is)[i*3+1]?=some (.string (is.getD i D_).tl)/\(Oa is)[i*3+2]?=some (.string (is.getD i D_).ar):=by
 induction is generalizing i with
 | nil=>simp at h
 | cons x r ih=>
  cases i with
  | zero=>exact ⟨rfl,rfl,rfl⟩
  | succ i=>
   have:=ih i (by simpa using h);have e:∀ j,(Oa (x::r))[(i+1)*3+j]?=(Oa r)[i*3+j]?:=fun j=>by
    show ([Value.string x.nm,vS x.tl,vS x.ar]++Oa r)[(i+1)*3+j]?=_;rw [Ue U7]
    congr 1
    simp;omega
   have e0:=e 0;simp only [En] at e0;rw [e0,e 1,e 2];exact this
theorem Dp {w:World} {v:Value} (h:w.ownsRow base 135 3 v is.length (Oa is)):∃ a c,v=.slice a is.length c/\Bo w a is:=by
 have b:=h;rcases h.2 with ⟨hv,h0⟩ | ⟨g,c,cur,hv,hg,e,_⟩
 · exact ⟨none,0,by rw [hv,h0],.inl (Va.1 h0)⟩
 refine ⟨some ⟨g,0,none⟩,c,hv,?_⟩;subst hv;refine .inr ⟨g,0,rfl,Jf e,fun i d=>?_⟩;obtain ⟨e0,e1,f⟩:=zG is i d;rw [L8,b.cellAt _ O0,b.cellAt _ O0,b.cellAt _ O0];exact ⟨e0,e1,f⟩
theorem yN (js:List M3) (a:js.all Ze=true) (o:List (List UInt8)):(js.flatMap m_).foldl (cst 10) (o,[])=(o++js.map Ff,[]):=by
 induction js generalizing o with
 | nil=>simp
 | cons x r ih=>
  simp only [Vl,V_] at a;rw [vg,wE,Ri,wF _ _ (qp a.1)];simp only [Ua];rw [ih a.2];simp
theorem vC (js:List M3) (a:js.all Ze=true):G8 10 (js.flatMap m_)=js.map Ff++[[]]:=by
 unfold G8 y8;rw [yN js a];simp
def Parsed (l:List UInt8) (x:M3):Prop:=∀ y,Ze y=true->l=Ff y->x=y
theorem parsed (ht:∀ q,Q9 l 3=P5 q->t=q):Parsed l ⟨J3 (O1 (Q9 l 1)),J3 (O1 (Q9 l 2)),J3 t⟩:=by
 intro y f e;obtain ⟨h1,h2,_⟩:=jh f;have a:Q9 l 1=Oc y:=((ZC f).1 e).2;rw [Ac] at a;have c:=J7 (r:=y.tl.data.toList++32::P5 y.ar.data.toList) (L_ h1).1;have d:Q9 l 2=y.tl.data.toList++32::P5 y.ar.data.toList:=by show Y1 (Q9 l 1)=_;rw [a];exact c.2
 have b:=J7 (r:=P5 y.ar.data.toList) (L_ h2).1;have g:Q9 l 3=P5 y.ar.data.toList:=by show Y1 (Q9 l 2)=_;rw [d];exact b.2
 have:=ht _ g;subst this;rw [a,d,c.1,b.1];rfl
def iH (S:List UInt8) (is:List M3) (k:Nat):Prop:=∀ js:List M3,js.all Ze=true->js.flatMap m_=S->is=js.take k
theorem MF (S:List UInt8):iH S [] 0:=fun _ _ _=>rfl
theorem FI (h:iH S is k) (d:k+1<(G8 10 S).length) (b:Parsed ((G8 10 S).getD k []) x):iH S (is++[x]) (k+1):=by
 intro js c e;have h1:=h js c e;have hc:=vC js c;rw [e] at hc;rw [hc] at d b;simp only [D9,Vd,o_,Ee] at d;have a:k<js.length:=O0;have g:(js.map Ff++[[]]).getD k []=Ff js[k]:=by
  simp only [List.getD,S_ (show k<(js.map Ff).length by simpa using a),Yr,Z8 a];rfl
 rw [g] at b;have f:=(Jo.1 c) _ (Bj a);rw [h1,b js[k] f rfl,<- Ey a]
theorem MN (h:iH S is k) (hkl:is.length=k) (a:k+1=(G8 10 S).length) (d:S.length<=300):(Zh is=S->La S is true)/\(Zh is≠S->La S [] false):=by
 constructor
 · intro h2;unfold Zh at h2;by_cases hc:jd is=true/\(is.flatMap m_).length<=300
   · rw [X7 hc] at h2;exact ⟨fun _=>⟨hc.1,h2,d⟩,(fun h=>by cases h)⟩
   rw [I7 hc] at h2;subst h2;have:k=0:=by simpa [G8,y8] using a
   have:is=[]:=Va.1 O0;subst this;exact absurd ⟨rfl,X4⟩ hc
 intro f;refine ⟨(fun h=>by cases h),fun _=>⟨rfl,fun js b e=>?_⟩⟩;exfalso;apply f;have c:=Zi b;have h1:=h js c e;have hc:=vC js c;rw [e] at hc;rw [hc] at a;simp only [D9,Vd,o_,Ee] at a;rw [l_ O0] at h1;subst h1;unfold Zh;rw [X7 ⟨b,by rw [e];exact d⟩,e]
def a1s (is:List M3) (e:Ending):Prop:=
 (jd is=true/\e=.returned .nilIface)\/(jd is=false/\∃ n ty va,e=.returned (.iface 252 (.agg #[.int .i64 n,.iface ty va])))
theorem c227 (a:OA) (W:Nat) (is:List M3) (w:World) (r:∀ i,(is.getD i D_).le 1048576) (hl:is.length<=1048576) (E:Bo w a is) (t0 t1 t2:TypeId) (K J v2:Value) (A:w.cell? ⟨6,0,none⟩=some (.iface t0 K)) (F:w.cell? ⟨7,0,none⟩=some (.iface t1 J)) (z:w.cell? ⟨8,0,none⟩=some (.iface t2 v2)):
 Calls prog 227 #[.slice a is.length W] w fun e w'=>a1s is e/\Bw w w':=by
 have h3z:8<w.heap.size:=by
  rcases Q7 8 w.heap.size with h | h
  · exact h
  simp [World.cell?,Xp h] at z
 obtain ⟨b,off,hc⟩:=Ej E;have Y:=U0 hc;clear hc E;go_enter func227,ntmps227
 go_wp2_with fail
 go_loopw [7] (fun i wr=>∃ (k:Nat),k<=is.length/\k<=30/\i=.int .i64 k/\Below w.heap.size w wr/\Hid (∀ j,j<k->stepM is j=true)) (fun i _=>is.length - (RowKit.intOf i).toNat)
 case atStart=>exact ⟨0,J4 _,J4 _,rfl,Z4 _ _,fun j h=>absurd h (J8 _)⟩
 obtain ⟨k,hk,a6D,rfl,f,t⟩:=hrel;by_cases m:k<is.length;rotate_left
 · have s:Hid (∀ _:is.length<=30,jd is=true):=fun h=>(Ui is).2 ⟨h,fun j D=>t.out j O0⟩;have R:Hid (is.length<=30):=by show is.length<=30;omega
   go_wp2;go_ret;exact ⟨.inl ⟨s.out R.out,rfl⟩,f⟩
 obtain ⟨ha,o,n⟩:=Cc Y.out m;subst ha;have l:=U0 f;have g0:=(f.cell (p:=⟨b,off+k*3,none⟩) o).trans (n k m).1;have g1:=(f.cell (p:=⟨b,off+k*3+1,none⟩) o).trans (n k m).2.1;have g2:=(f.cell (p:=⟨b,off+k*3+2,none⟩) o).trans (n k m).2.2;have C:Hid ((is.getD k D_).le 1048700):=⟨G7 (r k).1 O0,G7 (r k).2.1 O0,G7 (r k).2.2 O0⟩;have Q:=O9 o f.size;by_cases U:k=30
 · have X:Hid (jd is=false):=by
    cases s:jd is
    · rfl
    have:=((Ui is).1 s).1;omega
   subst U;have B:=(Qh wr (.cells #[vS (is.getD 30 D_).nm,vS (is.getD 30 D_).tl,vS (is.getD 30 D_).ar] 135) ⟨6,0,none⟩ (O9 (by show 6<w.heap.size;omega) f.size)).trans ((f.cell (p:=⟨6,0,none⟩) (by show 6<w.heap.size;omega)).trans A);clear n;generalize is.getD 30 D_=x at*;go_wp2;go_ret;exact ⟨.inr ⟨X.out,_,_,_,rfl⟩,l.out.alloc l.out.size _⟩
 rcases su k with h0 | h0
 · subst h0;have c:Hid (stepM is 0=Ze (is.getD 0 D_)):=by simp [stepM,Hid]
   simp only [Fq,En] at g0 g1 g2;generalize is.getD 0 D_=x at*;clear n f
   go_wp2_with fail
   refine (mW x _ C.out).mono ?_;rintro e I ⟨rfl,g⟩;have d:=U0 ((l.out.alloc l.out.size _).trans (g.mono (by simp;exact aJ l.out.size)));have m0:=(g.cell (p:=⟨wr.heap.size,0,none⟩) X4).trans (show (wr.alloc (.cells #[vS x.nm,vS x.tl,vS x.ar] 135)).cell? ⟨wr.heap.size,0,none⟩=some (vS x.nm) by simp);have B:=(d.out.cell (p:=⟨6,0,none⟩) (by show 6<w.heap.size;omega)).trans A;have N:=(d.out.cell (p:=⟨7,0,none⟩) (by show 7<w.heap.size;omega)).trans F;have L:=(d.out.cell (p:=⟨8,0,none⟩) (by show 8<w.heap.size;omega)).trans z;clear g g0 g1 g2;cases hx:Ze x
   · rw [hx] at c;go_wp2;go_ret;exact ⟨.inr ⟨Nr m c.out,_,_,_,rfl⟩,d.out⟩
   go_wp2_with fail
   refine wp_region_held_drew (S:=(fun u=>u.cell? ⟨wr.heap.size,0,none⟩=some (vS x.nm))) Y2 ?_ fun hH=>?_
   · ((try dsimp only);go_keep)
   refine tq 0 hH ?_;refine Y0 1 ?_;refine tq 2 hH ?_;refine E5 3 ?_;refine uq 4 hH ?_;refine E5 5 ?_;refine uq 6 hH ?_;refine E5 7 ?_;refine uq 8 hH ?_;refine E5 9 ?_;refine uq 10 hH ?_;refine E5 11 ?_;refine tq 12 hH ?_;refine Y0 13 ?_;refine wpAnyH_done Y2 ?_ _;rw [hx] at c;clear hH;have v:Hid (∀ j,j<0+1->stepM is j=true):=fun j D=>by
    rcases Q7 j 0 with h | h
    · exact t.out j h
    obtain rfl:j=0:=O0;exact c.out
   go_wp2;go_roundw
   case rel=>exact ⟨0+1,O0,O0,by go_num,d.out.drew,v⟩
   case measure=>simp [RowKit.intOf];omega
 obtain ⟨q,O⟩:∃ q,q+1=k:=⟨k - 1,O0⟩;have H:=(f.cell (p:=⟨b,off+q*3,none⟩) o).trans (n q O0).1;have c:Hid (stepM is k=(Ze (is.getD k D_)&&Op.bytesLess (is.getD q D_).nm.toList (is.getD k D_).nm.toList)):=by
  have e1:decide (k=0)=false:=S9 O0;have V:k - 1=q:=O0;unfold stepM;rw [e1,V];rfl
 have P:(0:Int)<(k:Int):=O0;have hm1:=C_ P;generalize is.getD k D_=x at*;generalize is.getD q D_=y at*;have hwr:IntKind.i64.wrap ((k:Int) - 1)=(q:Int):=by rw [show (k:Int) - 1=(q:Int) by omega];exact Fa q O0
 have hql:(q:Int)<(is.length:Int):=O0;clear O;clear n f
 go_wp2_with fail
 refine (mW x _ C.out).mono ?_;rintro e I ⟨rfl,g⟩;have d:=U0 ((l.out.alloc l.out.size _).trans (g.mono (by simp;exact aJ l.out.size)));have m0:=(g.cell (p:=⟨wr.heap.size,0,none⟩) X4).trans (show (wr.alloc (.cells #[vS x.nm,vS x.tl,vS x.ar] 135)).cell? ⟨wr.heap.size,0,none⟩=some (vS x.nm) by simp);have g3:=(g.cell (p:=⟨b,off+q*3,none⟩) U7).trans ((Qh _ _ ⟨b,off+q*3,none⟩ Q).trans H);clear H;have B:=(d.out.cell (p:=⟨6,0,none⟩) (by show 6<w.heap.size;omega)).trans A;have N:=(d.out.cell (p:=⟨7,0,none⟩) (by show 7<w.heap.size;omega)).trans F;have L:=(d.out.cell (p:=⟨8,0,none⟩) (by show 8<w.heap.size;omega)).trans z;clear g g0 g1 g2;cases hx:Ze x
 · have c:Hid (stepM is k=false):=by rw [c.out,hx];rfl
   go_wp2;go_ret;exact ⟨.inr ⟨Nr m c.out,_,_,_,rfl⟩,d.out⟩
 cases hy:Op.bytesLess y.nm.toList x.nm.toList
 · go_wp2_with fail
   refine wp_region_held_drew (S:=(fun u=>u.cell? ⟨wr.heap.size,0,none⟩=some (vS x.nm)/\u.cell? ⟨b,off+q*3,none⟩=some (vS y.nm))) Y2 ?_ fun hH=>?_
   · ((try dsimp only);go_keep)
   refine tq 0 hH ?_;refine Y0 1 ?_;refine tq 2 hH ?_;refine Y0 3 ?_;refine tq 4 hH ?_;refine Y0 5 ?_;refine tq 6 hH ?_;refine Y0 7 ?_;refine tq 8 hH ?_;refine Y0 9 ?_;refine tq 10 hH ?_;refine Y0 11 ?_;refine tq 12 hH ?_;refine Y0 13 ?_;refine wpAnyH_done Y2 ?_ _;rw [hx,hy] at c;clear hH;go_wp2;go_ret;exact ⟨.inr ⟨Nr m c.out,_,_,_,rfl⟩,d.out.drew⟩
 go_wp2_with fail
 refine wp_region_held_drew (S:=(fun u=>u.cell? ⟨wr.heap.size,0,none⟩=some (vS x.nm)/\u.cell? ⟨b,off+q*3,none⟩=some (vS y.nm))) Y2 ?_ fun hH=>?_
 · ((try dsimp only);go_keep)
 refine tq 0 hH ?_;refine Y0 1 ?_;refine tq 2 hH ?_;refine Y0 3 ?_;refine tq 4 hH ?_;refine Y0 5 ?_;refine tq 6 hH ?_;refine Y0 7 ?_;refine tq 8 hH ?_;refine Y0 9 ?_;refine tq 10 hH ?_;refine Y0 11 ?_;refine tq 12 hH ?_;refine Y0 13 ?_;refine wpAnyH_done Y2 ?_ _;rw [hx,hy] at c;clear hH;have v:Hid (∀ j,j<k+1->stepM is j=true):=fun j D=>by
  rcases Q7 j k with h | h
  · exact t.out j h
  obtain rfl:j=k:=O0;exact c.out
 go_wp2;go_roundw
 case rel=>exact ⟨k+1,O0,O0,by go_num,d.out.drew,v⟩
 case measure=>simp [RowKit.intOf];omega
end
end Go.Proofs.YtchjpjmcnhjbcaaGreatDoor.G
namespace Go.Proofs.YtchjpjmcnhjbcaaGreatDoor.G
open Proofs.Tryz Go.RowKit
open T (F2 I8 G_ Asc G6 J5 Yf Fa)
section
variable {w w':World}
structure au (w:World):Prop where
 g0:∃ t v,w.cell? ⟨6,0,none⟩=some (.iface t v)
 g1:∃ t v,w.cell? ⟨7,0,none⟩=some (.iface t v)
 g2:∃ t v,w.cell? ⟨8,0,none⟩=some (.iface t v)
 g6:w.cell? ⟨4,0,none⟩=some (.iface 357 (.agg #[.pointer (some ⟨14,169,none⟩)]))
theorem au.pos (h:au w):8<w.heap.size:=by
 obtain ⟨t,v,a⟩:=h.g2;rcases Q7 8 w.heap.size with h | h
 · exact h
 simp [World.cell?,Xp h] at a
theorem au.below (h:au w) (a:Bw w w'):au w':=by
 have hp:=h.pos;obtain ⟨t0,c,h0⟩:=h.g0;obtain ⟨t1,b,h1⟩:=h.g1;obtain ⟨t2,v2,h2⟩:=h.g2;exact ⟨⟨t0,c,(a.cell (p:=(aA 6 0)) (by show 6<w.heap.size;omega)).trans h0⟩,⟨t1,b,(a.cell (p:=(aA 7 0)) (by show 7<w.heap.size;omega)).trans h1⟩,⟨t2,v2,(a.cell (p:=(aA 8 0)) (by show 8<w.heap.size;omega)).trans h2⟩,(a.cell (p:=(aA 4 0)) (by show 4<w.heap.size;omega)).trans h.g6⟩
theorem zT (l:List UInt8) (w:World) (hs:l.length<=1048700) (hm:Dc w):
 Calls prog 201 #[.string (J3 l),.string ⟨#[32]⟩] w fun e w'=>(∃ y,e=.returned (.tuple #[.string (J3 (O1 l)),.string (J3 (Y1 l)),.bool y]))/\Bw w w':=by
 obtain ⟨_,m,hm⟩:=hm;refine (Tryz.strings_Cut (J3 l) ⟨#[32]⟩ m w (by rw [I5];omega) hm).mono ?_;rintro e w' ⟨rfl,n,rfl⟩;refine ⟨⟨(Lib.cut l [32]).2.2,?_⟩,below_drewN n⟩;rw [<- MH,<- dD];rfl
theorem a1f (l:List UInt8) (w:World) (hs:l.length<=1048700) (hm:Dc w):
 Calls prog 201 #[.string (J3 l),.string ⟨#[10]⟩] w fun e w'=>e=.returned (.tuple #[.string (J3 (Lib.cut l [10]).1),.string (J3 (Lib.cut l [10]).2.1),.bool (Lib.cut l [10]).2.2])/\Bw w w':=by
 obtain ⟨_,m,hm⟩:=hm;refine (Tryz.strings_Cut (J3 l) ⟨#[10]⟩ m w (by rw [I5];omega) hm).mono ?_;rintro e w' ⟨rfl,n,rfl⟩;exact ⟨rfl,below_drewN n⟩
theorem a1V (s:BY) (w:World):
 Calls prog 225 #[.string s,.string ⟨#[10]⟩] w fun e w'=>(∃ n,e=.returned (.int .i64 n))/\w'=w:=by
 go_enter func225,ntmps225;go_wp2;rw [run_callFunc_extern func267 Y2 Y2 Y2 (e:=Extern.BytealgCount.count) Y2,Lib.run_countString];simp only [Result.andThen];rw [Oper.upon_value];go_wp2;go_ret;exact ⟨⟨_,rfl⟩,rfl⟩
structure Gy (w:World):Prop where
 va:au w
 g3:∃ t v,w.cell? ⟨1,0,none⟩=some (.iface t v)
 g4:∃ t v,w.cell? ⟨2,0,none⟩=some (.iface t v)
 g5:∃ t v,w.cell? ⟨3,0,none⟩=some (.iface t v)
 mx:Dc w
theorem Gy.below (h:Gy w) (a:Bw w w'):Gy w':=by
 have hp:=h.va.pos;obtain ⟨g,d,k⟩:=h.g3;obtain ⟨f,c,j⟩:=h.g4;obtain ⟨e,b,i⟩:=h.g5;exact ⟨h.va.below a,⟨g,d,(a.cell (p:=(aA 1 0)) (by show 1<w.heap.size;omega)).trans k⟩,⟨f,c,(a.cell (p:=(aA 2 0)) (by show 2<w.heap.size;omega)).trans j⟩,⟨e,b,(a.cell (p:=(aA 3 0)) (by show 3<w.heap.size;omega)).trans i⟩,x9 h.mx a⟩
def KW (w:World) (l:List UInt8) (e:Ending) (w':World):Prop:=∃ (ms:List M3) (v er:Value),e=.returned (.tuple #[v,er])/\w'.ownsRow w.heap.size 135 3 v ms.length (Oa ms)/\((er=.nilIface/\La l ms true)\/((∃ n ty va,er=.iface 252 (.agg #[.int .i64 n,.iface ty va]))/\La l [] false))
theorem Gx {l:List UInt8} (n:Int) (ty:TypeId) (va:Value) (h:La l [] false):KW w l (.returned (.tuple #[.slice none 0 0,.iface 252 (.agg #[.int .i64 n,.iface ty va])])) w':=⟨[],_,_,rfl,mg _ _ _ _,.inr ⟨⟨n,ty,va,rfl⟩,h⟩⟩
theorem TL (s:BY) (w:World) (hs:s.size<=1048576) (a:300<s.size) (hv:Gy w):
 Calls prog 172 #[.string s] w fun e w'=>KW w s.data.toList e w'/\Bw w w':=by
 have b:Hid (La s.data.toList [] false):=XB (by simpa using a);obtain ⟨t3,v3,g3⟩:=hv.g3;go_enter func172,ntmps172
 go_wp2_with fail
 go_region_with (go_at_call 225;refine (a1V _ _).mono ?_;rintro e w' ⟨⟨n,rfl⟩,rfl⟩)
 all_goals go_wp2
 all_goals go_ret2
 all_goals exact ⟨Gx _ _ _ b.out,by first | exact Z4 _ _ | exact (Z4 _ _).drew⟩
theorem a1u (s:BY) (b:UInt8) (w:World) (hs:s.size<=1048700):
 Calls prog 136 #[.string s,.int .u8 b.toNat] w fun e w'=>(∃ g l,e=.returned (.slice (some ⟨g,0,none⟩) (G8 b s.data.toList).length l)/\w'.ownsRow w.heap.size 9 1 (.slice (some ⟨g,0,none⟩) (G8 b s.data.toList).length l) (G8 b s.data.toList).length (Dt (G8 b s.data.toList)))/\Bw w w':=by
 obtain ⟨z,F,C,B,A⟩:=info_parts info9;have hlen:s.data.toList.length=s.size:=X4;go_enter func136,ntmps136
 go_wp2_with fail
 go_loopw [5,6,7] (fun v fr i wr=>∃ (k f:Nat),k<=s.size/\f<=k/\i=.int .i64 k/\fr=.int .i64 f/\wr.ownsRow w.heap.size 9 1 v (y8 b (s.data.toList.take k)).1.length (Dt (y8 b (s.data.toList.take k)).1)/\Hid ((s.data.toList.take k).drop f=(y8 b (s.data.toList.take k)).2)/\Below w.heap.size w wr/\w.heap.size+1<=wr.heap.size) (fun _ _ i _=>s.size - (RowKit.intOf i).toNat)
 case atStart=>exact ⟨0,0,J4 _,v_ _,rfl,rfl,Iu _ #[] 0 H8 (J4 _) rfl,rfl,P6,X4⟩
 obtain ⟨k,f,hk,hf,rfl,rfl,c,d,h,I⟩:=hrel;have hL:(y8 b (s.data.toList.take k)).1.length<=k:=by
  have:=Gu b (s.data.toList.take k);rw [B_] at this;omega
 by_cases D:k<s.size;rotate_left
 · have L:Hid (s.data.toList.take k=s.data.toList):=l_ O0;have t:Hid (s.extract f s.size=J3 (y8 b (s.data.toList.take k)).2):=Qb (by rw [Ya,<- show k=s.size by omega];exact d.out);have H:Hid (G8 b s.data.toList=(y8 b (s.data.toList.take k)).1++[(y8 b (s.data.toList.take k)).2]):=by rw [L.out];rfl
   clear d;generalize y8 b (s.data.toList.take k)=st at*
   go_wp2_with (at_builtin;refine wpList_append_own _ rfl _ _ 22 rfl w.heap.size 9 z (.string ⟨#[]⟩) 1 16 underlying22 F C B A rfl o6 _ _ _ rfl (c.alloc _) ⟨wr.heap.size,0,none⟩ 1 1 [_] rfl rfl (cell_one_new _ _ _) (by intro u a;simp at a;subst a;rfl) (by unfold maxLen;omega) O0 U7 ?_;intro v' y n o _;obtain ⟨g,l,J⟩:=ul n O0;subst J)
   go_ret;have r:=(h.alloc h.size _).grown o U7 (fun j q=>(c.lt j q).1);have K:y.ownsRow w.heap.size 9 1 (vL (some (aA g 0)) (st.1.length+1) l) (st.1.length+1) (Dt (G8 b s.data.toList)):=by
    rw [H.out,Tf,<- t.out];exact n
   have E:(G8 b s.data.toList).length=st.1.length+1:=by rw [H.out];simp
   refine ⟨⟨g,l,by rw [E];rfl,by rw [E];exact K⟩,r⟩
 have p:Hid (y8 b (s.data.toList.take (k+1))=cst b (y8 b (s.data.toList.take k)) s[k]):=by rw [take_snoc s k D,Zm];rfl
 have t:Hid (s.extract f k=J3 (y8 b (s.data.toList.take k)).2):=Qb (by rw [Ya];exact d.out);by_cases hc:s[k]=b
 · have e1:((s[k].toNat:Int)==(b.toNat:Int))=true:=by rw [hc];simp
   have m:Hid (cst b (y8 b (s.data.toList.take k)) s[k]=((y8 b (s.data.toList.take k)).1++[(y8 b (s.data.toList.take k)).2],[])):=by unfold cst;rw [if_pos hc];rfl
   have x:Hid ((s.data.toList.take (k+1)).drop (k+1)=[]):=jq U7;clear hc d;generalize y8 b (s.data.toList.take k)=st at*
   go_wp2_with (at_builtin;refine wpList_append_own _ rfl _ _ 22 rfl w.heap.size 9 z (.string ⟨#[]⟩) 1 16 underlying22 F C B A rfl o6 _ _ _ rfl (c.alloc _) ⟨wr.heap.size,0,none⟩ 1 1 [_] rfl rfl (cell_one_new _ _ _) (by intro u a;simp at a;subst a;rfl) (by unfold maxLen;omega) O0 U7 ?_;intro v' y n o _)
   go_roundw
   case rel=>
    have r:=(h.alloc h.size _).grown o U7 (fun j q=>(c.lt j q).1);refine ⟨k+1,k+1,O0,v_ _,by go_num,by go_num,?_,?_,r,by have:=o.size;simp at this;omega⟩
    · rw [p.out,m.out,D9,Tf,<- t.out];exact n
    rw [p.out,m.out];exact x.out
   case measure=>simp [RowKit.intOf];omega
 have e1:((s[k].toNat:Int)==(b.toNat:Int))=false:=by
  simp only [p_];intro e;exact hc (Yh.1 O0)
 have m:Hid (cst b (y8 b (s.data.toList.take k)) s[k]=((y8 b (s.data.toList.take k)).1,(y8 b (s.data.toList.take k)).2++[s[k]])):=by unfold cst;rw [if_neg hc];rfl
 have x:Hid ((s.data.toList.take (k+1)).drop f=(s.data.toList.take k).drop f++[s[k]]):=by rw [take_snoc s k D,yI U7];rfl
 clear hc;generalize y8 b (s.data.toList.take k)=st at*;go_wp2;go_roundw
 case rel=>
  refine ⟨k+1,f,O0,O0,by go_num,rfl,?_,?_,h,I⟩
  · rw [p.out,m.out];exact c
  rw [p.out,m.out,x.out,d.out];rfl
 case measure=>simp [RowKit.intOf];omega
theorem own_ne {B B' e b size c n d:Nat} {v v':Value} {xs xs':List Value} (h:w.ownsRow B e size v n xs) (j:w.ownsRow B' b c v' d xs') (f:e≠b):v.ownBlock=none\/v.ownBlock≠v'.ownBlock:=by
 rcases h.2 with ⟨rfl,_⟩ | ⟨g,cap,cur,rfl,_,i,_⟩
 · exact .inl rfl
 rcases j.2 with ⟨rfl,_⟩ | ⟨g',cap',cur',rfl,_,a,_⟩
 · exact .inr (by simp [Value.ownBlock])
 refine .inr fun he=>?_;simp only [Value.ownBlock,Ou] at he;subst he;rw [i] at a;simp only [Ou,Obj.cells.injEq] at a;exact f a.2.1
theorem a0Y (l:List UInt8) (w:World) (a:l.length<=1048700):
 Calls prog 139 #[.string (J3 l)] w fun e w'=>(∃ t,e=.returned (.string (J3 t))/\t.length<=l.length+1/\∀ q,l=P5 q->t=q)/\Bw w w':=by
 have:=c139 (J3 l) w (by rw [I5];exact a);rw [I5] at this;exact this
theorem a0p (l:List UInt8) (w:World) (a:l.length<=1048700):
 Calls prog 137 #[.string (J3 l),.int .i64 3] w fun e w'=>(∃ g b,e=.returned (.tuple #[.slice (some ⟨g,0,none⟩) 3 b,.string (J3 (Q9 l 3))])/\w.heap.size<=g/\Xb w' g (A_ l 3))/\Bw w w':=a0q (J3 l) w (by rw [I5];exact a)
theorem wI {ms:List M3} {x:M3} {B:Nat} (h:∀ j,(ms.getD j D_).le B) (hx:x.le B) (j:Nat):((ms++[x]).getD j D_).le B:=by
 rcases Qv j ms.length with a | a | a
 · have:(ms++[x]).getD j D_=ms.getD j D_:=by simp [List.getD,S_ a]
   rw [this];exact h j
 · subst a;have:(ms++[x]).getD ms.length D_=x:=by simp [List.getD]
   rw [this];exact hx
 have:(ms++[x]).getD j D_=D_:=by simp [List.getD,Yb (show (ms++[x]).length<=j by simp;omega)]
 rw [this];exact ⟨J4 _,J4 _,J4 _⟩
theorem cell_grown {row:Option Nat} (c:w.grownBy w' row) {p:Addr} (a:p.block<w.heap.size) (b:some p.block≠row):w'.cell? p=w.cell? p:=by
 unfold World.cell?;rw [c.block p.block a b]
def a2x (l:List UInt8) (e:Ending) (w':World):Prop:=∃ (ms:List M3) (ok:Bool) (a:OA) (cap:Nat),e=.returned (.tuple #[.slice a ms.length cap,.bool ok])/\Bo w' a ms/\La l ms ok
theorem a2T (s:BY) (w:World) (hs:s.size<=1048576):
 Calls prog 199 #[.string s] w fun e w'=>a2x s.data.toList e w'/\Bw w w':=by
 have hlen:s.data.toList.length=s.size:=X4;obtain ⟨i0,hi,hz0,hz1,hz2⟩:=info_parts QJ;by_cases a4l:300<s.size
 · have n:Hid (La s.data.toList [] false):=XB O0;go_enter func199,ntmps199;go_wp2;go_ret2;exact ⟨⟨[],false,_,_,rfl,.inl rfl,n.out⟩,P6⟩
 go_enter func199,ntmps199
 go_wp2_with fail
 refine (a1u s 10 _ O0).mono ?_;rintro e y ⟨⟨g,Y,rfl,U⟩,r⟩;have hx1:=P6.trans (r.mono X4);have hz1':w.heap.size+1<=y.heap.size:=by have:=r.size;simpa using this
 have hrow0:y.ownsRow w.heap.size 135 3 (vL (some (aW w 0)) 0 0) 0 (Oa []):=ownsRow_below (Iu _ #[] 0 H8 (J4 _) rfl) r;have a4V:y.ownsRow w.heap.size 9 1 (vL (some (aA g 0)) (G8 10 s.data.toList).length Y) (G8 10 s.data.toList).length (Dt (G8 10 s.data.toList)):=Yf U X4;obtain ⟨hn1,hn2⟩:=gm 10 s.data.toList;have HCS:=U0 (cut_small 10 s.data.toList);clear r U
 go_wp2_with fail
 generalize hLs:G8 10 s.data.toList=a at*;have E:=U0 hLs;clear hLs;go_loopw [4,6] (fun v i wr=>∃ (k:Nat) (ms:List M3),k+1<=a.length/\i=.int .i64 k/\ms.length=k/\Hid (iH s.data.toList ms k)/\Hid (∀ j,(ms.getD j D_).le 1048576)/\wr.ownsRow w.heap.size 135 3 v ms.length (Oa ms)/\wr.ownsRow w.heap.size 9 1 (.slice (some ⟨g,0,none⟩) a.length Y) a.length (Dt a)/\Below w.heap.size w wr/\w.heap.size+1<=wr.heap.size) (fun _ i _=>a.length - (RowKit.intOf i).toNat)
 case atStart=>exact ⟨0,[],O0,rfl,rfl,MF _,(fun j=>⟨J4 _,J4 _,J4 _⟩),hrow0,a4V,hx1,hz1'⟩
 obtain ⟨k,ms,hk,rfl,a6e,N,J,h,P,X,hzr⟩:=hrel;subst a6e;obtain ⟨ao,co,hv⟩:=Ap h;subst hv;by_cases hlt:ms.length+1<a.length;rotate_left
 · obtain ⟨E1,E2⟩:=MN N.out rfl (by rw [E.out];omega) O0;have H:=U0 E1;have F:=U0 E2;clear E1 E2;obtain ⟨ao',cap',hv',C⟩:=Dp h;injection hv' with h1 h2 h3;subst h1 h3;have HAT:=U0 C;have hmm:ms.length<=1048576:=O0;have Z:=a3f ao co ms wr J.out hmm C;clear C
   go_wp2_with fail
   refine Z.mono ?_;rintro e w5 ⟨rfl,W⟩;have D:=X5 X W;have a6f:=U0 (Qk HAT.out W);clear Z;by_cases hf:Zh ms=s.data.toList
   · have n:=U0 (H.out hf);have m:(J3 (Zh ms)).toList=s.toList:=by rw [hf,ByteArray.toList_eq,ByteArray.toList_eq];rfl
     have e1:((J3 (Zh ms)).toList==s.toList)=true:=by simpa using m
     clear H F hf;go_wp2;go_ret2;exact ⟨⟨ms,true,_,_,rfl,a6f.out,n.out⟩,D⟩
   have n:=U0 (F.out hf);have m:¬ (J3 (Zh ms)).toList=s.toList:=by rw [ByteArray.toList_eq,ByteArray.toList_eq];simpa [J3] using hf
   have e1:((J3 (Zh ms)).toList==s.toList)=false:=by simpa using m
   clear H F hf;go_wp2;go_ret2;exact ⟨⟨[],false,_,_,rfl,.inl rfl,n.out⟩,D.alloc D.size _⟩
 have R:=Dh P rfl;have l0:=R.2 ms.length O0;have hLl:=HCS.out ms.length;have a6g:=fun (t:List UInt8) ht=>parsed (l:=a.getD ms.length []) (t:=t) ht;generalize hL:a.getD ms.length []=L at*;have HL:=U0 hL;clear hL;have hiB:(ms.length:Int)<(a.length:Int):=O0
 go_wp2_with fail
 refine (a0p L _ O0).mono ?_;rintro e x ⟨⟨g2,cp2,rfl,hg2,o⟩,q⟩;have hB2:=X5 X q;have hown2:=ownsRow_below h q;have hrow2:=ownsRow_below P q;have hz2':=G7 hzr q.size;have q1:x.cell? (aA g2 1)=some (vS (J3 (O1 (Q9 L 1)))):=o.2 1 (by simp [A_]);have q2:x.cell? (aA g2 2)=some (vS (J3 (O1 (Q9 L 2)))):=o.2 2 (by simp [A_]);have V:=o.1;have r1:=Qi L 1;have r2:=Qi L 2;have r3:=Qi L 3;have r1':=(D8 (Q9 L 1)).1;have r2':=(D8 (Q9 L 2)).1;generalize hA:O1 (Q9 L 1)=A at*;generalize hBB:O1 (Q9 L 2)=B at*;generalize hQ:Q9 L 3=Q at*;clear hA hBB hQ o R l0
 go_wp2_with fail
 refine wp_region_held_drew (S:=(fun u=>u.cell? (aA g2 1)=some (vS (J3 A))/\u.cell? (aA g2 2)=some (vS (J3 B)))) Y2 ?_ fun hH=>?_
 · ((try dsimp only);go_keep)
 refine tq 0 hH ?_;refine tq 1 hH ?_;refine tq 2 hH ?_;refine tq 3 hH ?_;refine tq 4 hH ?_;refine tq 5 hH ?_;refine tq 6 hH ?_;refine Y0 7 ?_;refine rq 8 fun K b=>?_;go_simp;refine (a0Y Q _ O0).mono ?_;rintro e f ⟨⟨t,rfl,htl,htq⟩,hb3⟩;have d:Hid (Bw x f):=(Z4 _ _).drew.trans hb3;have e1:=(d.out.cell (p:=(aA g2 1)) (by exact V)).trans q1;have m:=(d.out.cell (p:=(aA g2 2)) (by exact V)).trans q2;have z:=ownsRow_below hown2 d.out;have O:=ownsRow_below hrow2 d.out;have a6E:=d.out.size;have e1a:=past (by show g2<f.heap.size;omega) e1;have e2a:=past (by show g2<f.heap.size;omega) m
 go_wp2_with fail
 clear hH;refine PL b fun hH=>?_;clear b K;refine Y0 9 ?_;refine rq 10 fun K b=>?_;go_simp;clear hH;refine zH b fun hH=>?_;clear b K;refine rq 11 fun K b=>?_;refine Ur rfl (.tmp 31) (.tmp 41) 113 rfl w.heap.size 135 i0 (.agg #[vE,vE,vE]) 3 48 underlying113 hi hz0 hz1 hz2 rfl o6 _ _ _ rfl (z.alloc _) (aW f 0) 1 1 [_,_,_] rfl rfl (VX rfl _ _ _ _) (by intro u I;simp at I;rcases I with rfl | rfl | rfl <;> rfl) (by unfold maxLen;omega) O0 U7 ?_;intro v' w4 hown4 c;have hB4:=U0 ((((X5 hB2 d.out).alloc O0 _).grown c U7 (fun j hj=>(z.lt j hj).1)));have hrow4:=U0 ((O.alloc _).kept c (own_ne O z o6));have f1:=(cell_grown c (p:=(aA g2 1)) U7 (fun e=>by have:=(h.lt _ e.symm).2;simp at this;omega)).trans (e1a _);have f2:=(cell_grown c (p:=(aA g2 2)) U7 (fun e=>by have:=(h.lt _ e.symm).2;simp at this;omega)).trans (e2a _);have hz4:f.heap.size+1<=w4.heap.size:=by have:=c.size;simp at this;omega
 clear c;clear hH;refine PL b fun hH=>?_;clear b K;refine Y0 12 ?_;refine wpAnyH_done Y2 ?_ _;clear hH;have HSO:=U0 (FI N.out (by rw [E.out];exact hlt) (by rw [E.out,HL.out];exact a6g t htq));have HTX:Hid (∀ j,((ms++[(⟨J3 A,J3 B,J3 t⟩:M3)]).getD j D_).le 1048576):=wI J.out ⟨by rw [I5];omega,by rw [I5];omega,by rw [I5];omega⟩;go_wp2;go_roundw
 case rel=>
  refine ⟨ms.length+1,ms++[(⟨J3 A,J3 B,J3 t⟩:M3)],O0,by go_num,X4,HSO,HTX,?_,hrow4.out,hB4.out,O0⟩;rw [Us,D9];exact hown4
 case measure=>simp [RowKit.intOf];omega
end
section
variable {fs:List F2} {ms:List M3}
def Ir:BY:=⟨#[112,108,97,110]⟩
def Free (fs:List F2) (nm:BY):Prop:=∀ j,j<fs.length->(fs.getD j I8).nm≠nm
def Zl (fs:List F2) (ms:List M3):Prop:=∀ i,i<ms.length->Free fs (ms.getD i D_).nm
def Jj (fs:List F2) (ms:List M3):Prop:=
 (¬ G_ fs/\ms=[])\/(G_ fs/\Free fs Ir/\ms=[])\/
 (G_ fs/\∃ i,i<fs.length/\(fs.getD i I8).nm=Ir/\∃ ks ok,La (fs.getD i I8).tx.data.toList ks ok/\((ok=true/\Zl fs ks/\ms=ks)\/(¬ (ok=true/\Zl fs ks)/\ms=[])))
theorem dM (h:G_ fs) {i j:Nat} (b:i<fs.length) (a:j<fs.length) (e:(fs.getD i I8).nm=(fs.getD j I8).nm):i=j:=by
 have hm:=T.Uh h;rcases Qv i j with h1 | h1 | h1
 · have:=hm i j h1 a;rw [e,T.Ic] at this;cases this
 · exact h1
 have:=hm j i h1 b;rw [e,T.Ic] at this;cases this
theorem Xy {ns:List M3} (h:Jj fs ms) (k:Jj fs ns):ms=ns:=by
 rcases h with ⟨h1,rfl⟩ | ⟨h1,h2,rfl⟩ | ⟨h1,i,l,g,ks,ok,o,hr⟩
 · rcases k with ⟨_,rfl⟩ | ⟨a,_⟩ | ⟨a,_⟩
   · rfl
   · exact absurd a h1
   exact absurd a h1
 · rcases k with ⟨a,_⟩ | ⟨_,_,rfl⟩ | ⟨_,j,c,b,_⟩
   · exact absurd h1 a
   · rfl
   exact absurd b (h2 j c)
 rcases k with ⟨a,_⟩ | ⟨_,m,_⟩ | ⟨_,j,c,b,ks',ok',n,f⟩
 · exact absurd h1 a
 · exact absurd g (m i l)
 obtain rfl:=dM h1 l c (g.trans b.symm);obtain ⟨rfl,rfl⟩:=lI o n;rcases hr with ⟨e,a2,rfl⟩ | ⟨e,rfl⟩
 · rcases f with ⟨_,_,rfl⟩ | ⟨d,_⟩
   · rfl
   exact absurd ⟨e,a2⟩ d
 rcases f with ⟨d,p,_⟩ | ⟨_,rfl⟩
 · exact absurd ⟨d,p⟩ e
 rfl
theorem Rq {l:List UInt8} {ok:Bool} (h:La l ms ok):ms.length<=300/\∀ i,(ms.getD i D_).le 300:=by
 cases ok
 · rw [(h.2 rfl).1];exact ⟨J4 _,fun i=>⟨J4 _,J4 _,J4 _⟩⟩
 obtain ⟨h1,h2,h3⟩:=h.1 rfl;have:=WG ms;rw [h2] at this;exact ⟨O0,jw fun i a=>zQ (iK (Zi h1) a)⟩
theorem iG (h:Jj fs ms):ms.length<=300:=by
 rcases h with ⟨_,rfl⟩ | ⟨_,_,rfl⟩ | ⟨_,i,hi,hn,ks,ok,a,hr⟩
 · exact J4 _
 · exact J4 _
 rcases hr with ⟨_,_,rfl⟩ | ⟨_,rfl⟩
 · exact (Rq a).1
 exact J4 _
