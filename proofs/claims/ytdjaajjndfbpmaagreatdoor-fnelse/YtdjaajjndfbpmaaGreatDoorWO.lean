import Derived.Test.YtdjaajjndfbpmaaGreatDoorEE
set_option linter.unusedVariables false
set_option maxHeartbeats 8000000
set_option maxRecDepth 100000
namespace Go.Proofs.YtdjaajjndfbpmaaGreatDoor
open Proofs.Tryz
open Go.RowKit
open G (H6)
open G.T (F2 P6 X3 F3)
def Yz (fs:List F2) (nm:ByteArray) (d:Dd):Prop:=(X3 fs/\J2 nm.data.toList=true/\∃ ms,H6 fs ms/\Xc (P5 fs ms) nm d)\/((¬ X3 fs\/J2 nm.data.toList=false)/\d.ls=[]/\d.r=⟨2,⟨#[]⟩⟩)
def eO (nm:ByteArray):Dd:=⟨nm,false,N7,[],⟨2,⟨#[]⟩⟩,⟨#[]⟩⟩
def Jy (d:Dd):Value:=.agg #[.int .i64 d.r.code,.string d.r.tx]
theorem Sr {i:Nat} {f:Func} {a:Array Value} {U w:World} {fs:List F2} {nm:ByteArray} {d:Dd} {c b:Value} (h:f.results=#[.cell i 34]) (g:a[i]?=some (.pointer (some ⟨w.heap.size+1,0,none⟩))) (h0:U.cell? ⟨w.heap.size+1,0,none⟩=some c) (h1:U.cell? ⟨w.heap.size+1,1,none⟩=some b) (j:Yz fs nm d) (hB:Below w.heap.size w U):
 bodyPost prog f (fun e w'=>(∃ d,Yz fs nm d/\e=.returned (Jy d))/\Below w.heap.size w w') .ret ⟨a,[]⟩ ((U.setCell ⟨w.heap.size+1,0,none⟩ (.int .i64 d.r.code)).setCell ⟨w.heap.size+1,1,none⟩ (.string d.r.tx)):=by
 have F:=G.N9 U (w.heap.size+1) (.int .i64 d.r.code) (.string d.r.tx) _ _ h0 h1;refine K4 (v:=Jy d) ?_ rfl ⟨⟨d,j,rfl⟩,(hB.setCell X0 _).setCell X0 _⟩;simp [results,h,go_sem,F.1,F.2,g,Jy]
theorem c11 (a:Option Addr) (cap:Nat) (fs:List F2) (nm:ByteArray) (w:World) (R:fs.length<=1048576) (P:∀ i,(fs.getD i P6).le 1048576) (X:F3 w a fs) (hns:nm.size<=1048576):
 Calls prog 11 #[.agg #[.slice a fs.length cap],.string nm] w fun e w'=>(∃ d,Yz fs nm d/\e=.returned (Jy d))/\Below w.heap.size w w':=by
 have J:=Q0 X;have Y:=Q0 P;have C:∀ o1 o2,Below w.heap.size w ((w.alloc o1).alloc o2):=fun o1 o2=>bA.alloc X0 _;clear X P;go_enter func11,ntmps11
 go_wp2_with fail
 refine (G.T.c8 a cap fs _ R Y.out (G.T.U0 J.out (C _ _))).mono ?_;rintro e w1 ⟨⟨b,rfl,W⟩,y⟩;have I:=Q0 W;have B:=(C _ _).trans (y.mono J4);have t:Below (w.heap.size+2) ((w.alloc (.cells #[.slice a fs.length cap] 25)).alloc (.cells #[.int .i64 0,.string ⟨#[]⟩] 34)) w1:=by have h:=y;simp at h;exact h
 obtain ⟨q,⟨n,m⟩,E,D⟩:=G.sM t;have hz1:w.heap.size+2<=w1.heap.size:=by have:=t.size;simp at this;omega
 clear W y t C;cases b
 · have H:Hid (Yz fs nm (eO nm)):=.inr ⟨.inl (fun h=>by have:=I.out.2 h;cases this),rfl,rfl⟩
   go_wp2;exact Sr (i:=4) rfl rfl n m H.out B
 have s:=Q0 (I.out.1 rfl);clear I
 go_wp2_with fail
 refine (c24 nm w1 O0).mono ?_;rintro e w2 ⟨k,hw2⟩;obtain rfl:=hw2;cases hn:J2 nm.data.toList
 · have F:e=.returned (.bool false):=by rw [k];exact V3 (fun b=>Ending.returned (.bool b)) hn
   subst F;have H:Hid (Yz fs nm (eO nm)):=.inr ⟨.inr hn,rfl,rfl⟩;clear k;go_wp2;exact Sr (i:=4) rfl rfl n m H.out B
 have F:e=.returned (.bool true):=by rw [k];exact V3 (fun b=>Ending.returned (.bool b)) hn
 subst F;clear k;obtain ⟨ms,Q⟩:=sj fs;have o:=Q0 Q;clear Q
 go_upto_region 3 with fail
 obtain ⟨f,g⟩:∃ x:World,x=w2.drew:=⟨_,rfl⟩;have z:Below w.heap.size w f:=by rw [g];exact B.drew
 refine F7 (S:=fun u=>u.cell? ⟨w.heap.size,0,none⟩=some (.slice a fs.length cap)) U2 ?_ fun c=>?_
 · exact q
 rw [<- g] at c ⊢;have hzx:w.heap.size+2<=f.heap.size:=by rw [g];exact hz1
 have q:f.cell? ⟨w.heap.size,0,none⟩=some (.slice a fs.length cap):=c;have n:f.cell? ⟨w.heap.size+1,0,none⟩=some (.int .i64 0):=by rw [g];exact n
 have m:f.cell? ⟨w.heap.size+1,1,none⟩=some (.string ⟨#[]⟩):=by rw [g];exact m
 have E:f.frozen? ⟨w.heap.size+1,0,none⟩=false:=by rw [g];exact E
 have D:f.frozen? ⟨w.heap.size+1,1,none⟩=false:=by rw [g];exact D
 clear g;refine tq 0 c ?_;refine tq 1 c ?_;refine I4 3 c ?_;refine rq 2 fun K j=>?_;go_simp;refine (gQ (P5 fs ms) a cap fs ms rfl f (G.T.U0 J.out z) s.out o.out).mono ?_;rintro e L ⟨v,ws,rfl,r,hM,hB⟩;obtain ⟨wa,wc,hv,O⟩:=Zp r.row;subst hv;have OV:=Q0 O;have UX:Hid (ws.length<=300):=by have:=Fa o.out;have:=V3 List.length hM;simp at this;show _<=_;omega
 have Z:=Q0 (Vr s.out o.out r.ok hM hB nm);have A:Below f.heap.size f L:=r.bl;clear r hM hB O;go_simp;clear c;refine Z6 j ?_ fun c=>?_
 · exact (A.cell (p:=⟨w.heap.size,0,none⟩) (by show w.heap.size<_;omega)).trans q
 clear j K;refine rq 4 fun K j=>?_;go_simp;refine (dQ a cap fs ms wa wc ws nm L R Y.out (G.T.U0 J.out (bT z A)) s.out o.out UX.out OV.out).mono ?_;rintro e x2 ⟨k,hb2⟩;obtain ⟨d,V,U⟩:∃ d,Xc (P5 fs ms) nm d/\e=.returned (Jy d):=⟨_,Z.out,by rw [k];unfold dW;split <;> rfl⟩;have HD:Hid (Yz fs nm d):=.inl ⟨s.out,hn,ms,o.out,V⟩;unfold Jy at U;subst U;clear k V Z;have l:=bT A hb2;have z0:=(l.cell (p:=⟨w.heap.size+1,0,none⟩) (by show w.heap.size+1<_;omega)).trans n;have z1:=(l.cell (p:=⟨w.heap.size+1,1,none⟩) (by show w.heap.size+1<_;omega)).trans m;have k0:=(l.frozen (p:=⟨w.heap.size+1,0,none⟩) (by show w.heap.size+1<_;omega)).trans E;have k1:=(l.frozen (p:=⟨w.heap.size+1,1,none⟩) (by show w.heap.size+1<_;omega)).trans D;have N:=(l.cell (p:=⟨w.heap.size,0,none⟩) (by show w.heap.size<_;omega)).trans q;go_simp;clear c;refine Z6 j ?_ fun c=>?_
 · exact N
 clear j K;refine rq 5 fun K j=>?_;go_simp;clear c;refine Z6 j ?_ fun c=>?_
 · exact (Bj O0).trans N
 clear j K;refine a_ ?_;clear c;go_wp2;exact Sr (i:=4) rfl rfl z0 z1 HD.out (bT z l)
end Go.Proofs.YtdjaajjndfbpmaaGreatDoor
