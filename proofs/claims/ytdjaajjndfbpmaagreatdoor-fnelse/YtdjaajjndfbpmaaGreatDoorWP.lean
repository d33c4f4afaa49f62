import Derived.Test.YtdjaajjndfbpmaaGreatDoorWO
set_option linter.unusedVariables false
set_option maxHeartbeats 8000000
set_option maxRecDepth 100000
namespace Go.Proofs.YtdjaajjndfbpmaaGreatDoor
open Proofs.Tryz
open Go.RowKit
open G (H6)
open G.T (F2 P6 X3 F3)
structure Std (w:World):Prop where
 vz:G.Zj w
 sh:A7 w
 mx:Z9 w
 ten:10<=w.heap.size
theorem uO {a:Option Addr} {cap:Nat} {fs:List F2} {ms:List M3} {nm:ByteArray} {w b:World} (B:F3 w a fs) (l:X3 fs) (i:H6 fs ms) (m:J2 nm.data.toList=true) (g:Std w) (hB:Below w.heap.size w b) {e:Ending} {f:World} (h:Ho b fs (.slice a fs.length cap) e f):∃ kb,e=.returned (.pointer (some ⟨kb,0,none⟩))/\Calls prog 22 #[.pointer (some ⟨kb,0,none⟩),.string nm] f fun e w'=>∃ (d:Dd) (la:Option Addr) (c:Nat),e=.returned (.tuple #[.agg (De.vs ⟨d,.slice la d.ls.length c⟩).toArray,.string d.wt])/\Yz fs nm d/\w'.ownsRow w.heap.size 52 4 (.slice la d.ls.length c) d.ls.length (R4 d.ls)/\Below b.heap.size b w':=by
 obtain ⟨kb,mr,mw,pv,ms',rfl,x,u,t,p,r,o,l2,n,s,j⟩:=h;obtain rfl:=G.o_ i r;refine ⟨kb,rfl,?_⟩;have v:=hB.size;have k:=g.ten;have y:BD ⟨b,kb,mr,mw,a,cap,fs,pv,ms⟩ (P5 fs ms):=⟨by show 10<=b.heap.size;omega,Dc g.sh hB k,Lg g.mx hB k,G.T.U0 B hB,l,i,rfl⟩;refine (yP _ _ y _ nm f (xN (a:=a) (cap:=cap) (fs:=fs) x u t p o l2 n s j) (tN (P5 fs ms) kb mr mw pv) rfl m).mono ?_;rintro e w4 ⟨d,la,c,rfl,z,q,A,_⟩;exact ⟨d,la,c,rfl,.inl ⟨l,m,ms,i,z⟩,D5 q (Z4 v j.size),j.trans A⟩
theorem c10 (a:Option Addr) (cap:Nat) (fs:List F2) (nm:ByteArray) (w:World) (C:fs.length<=1048576) (A:∀ i,(fs.getD i P6).le 1048576) (H:F3 w a fs) (hns:nm.size<=1048576) (z:Std w):
 Calls prog 10 #[.agg #[.slice a fs.length cap],.string nm] w fun e w'=>(∃ d,Yz fs nm d/\e=.returned (Jy d))/\Below w.heap.size w w':=by
 have x:=Q0 H;have N:=Q0 A;have L:=Q0 z;have q:∀ o1 o2,Below w.heap.size w ((w.alloc o1).alloc o2):=fun o1 o2=>bA.alloc X0 _;clear H A z;go_enter func10,ntmps10
 go_wp2_with fail
 refine (G.T.c18 a cap fs _ C N.out (G.T.U0 x.out (q _ _))).mono ?_;rintro e w1 ⟨⟨b,rfl,E⟩,n⟩;have u:=Q0 E;have f:=(q _ _).trans (n.mono J4);have m:Below (w.heap.size+2) ((w.alloc (.cells #[.slice a fs.length cap] 25)).alloc (.cells #[.int .i64 0,.string ⟨#[]⟩] 34)) w1:=by have h:=n;simp at h;exact h
 obtain ⟨R,⟨k,j⟩,K,J⟩:=G.sM m;have V:w.heap.size+2<=w1.heap.size:=by have:=m.size;simp at this;omega
 clear E n m q;cases b
 · have t:Hid (Yz fs nm (eO nm)):=.inr ⟨.inl (fun h=>by have:=u.out.2 h;cases this),rfl,rfl⟩
   go_wp2;exact Sr (i:=4) rfl rfl k j t.out f
 have Z:=Q0 (u.out.1 rfl);clear u
 go_wp2_with fail
 refine (c19 nm w1 O0).mono ?_;rintro e w2 ⟨l,W⟩;obtain rfl:=W;cases hn:J2 nm.data.toList
 · have s:e=.returned (.bool false):=by rw [l];exact V3 (fun b=>Ending.returned (.bool b)) hn
   subst s;have t:Hid (Yz fs nm (eO nm)):=.inr ⟨.inr hn,rfl,rfl⟩;clear l;go_wp2;exact Sr (i:=4) rfl rfl k j t.out f
 have s:e=.returned (.bool true):=by rw [l];exact V3 (fun b=>Ending.returned (.bool b)) hn
 subst s;clear l;have HN:=Q0 hn;clear hn;obtain ⟨ms,B⟩:=sj fs;have HP:=Q0 B;clear B
 go_wp2_with fail
 refine (c21 a cap fs _ C N.out (G.T.U0 x.out f) (L.out.vz.below f)).mono ?_;rintro e w3 h;obtain ⟨kb,rfl,h2⟩:=uO x.out Z.out HP.out HN.out L.out f h;have O:=Q0 h2;clear h h2
 go_wp2_with fail
 refine O.out.mono ?_;rintro e g ⟨d,la,lc,rfl,D,X,c⟩;have HD:=Q0 D;clear D X O;unfold De.vs;have Q:=(c.cell (p:=⟨w.heap.size+1,0,none⟩) (by show w.heap.size+1<_;omega)).trans k;have P:=(c.cell (p:=⟨w.heap.size+1,1,none⟩) (by show w.heap.size+1<_;omega)).trans j;have k0:=(c.frozen (p:=⟨w.heap.size+1,0,none⟩) (by show w.heap.size+1<_;omega)).trans K;have k1:=(c.frozen (p:=⟨w.heap.size+1,1,none⟩) (by show w.heap.size+1<_;omega)).trans J;have Y:=bT f c;have S:w.heap.size+1<g.heap.size:=Z4 V c.size;clear k j K J R c;go_wp2;have F:=G.N9 g (w.heap.size+1) (.int .i64 d.r.code) (.string d.r.tx) _ _ Q P;have I:Below w.heap.size w ((g.setCell ⟨w.heap.size+1,0,none⟩ (.int .i64 d.r.code)).setCell ⟨w.heap.size+1,1,none⟩ (.string d.r.tx)):=(Y.setCell X0 _).setCell X0 _;have y:w.heap.size+1<((g.setCell ⟨w.heap.size+1,0,none⟩ (.int .i64 d.r.code)).setCell ⟨w.heap.size+1,1,none⟩ (.string d.r.tx)).heap.size:=by simpa using S
 generalize ((g.setCell ⟨w.heap.size+1,0,none⟩ (.int .i64 d.r.code)).setCell ⟨w.heap.size+1,1,none⟩ (.string d.r.tx))=U at*;have F1:=fun o=>(G.w_ y 0 o).trans F.1;have F2:=fun o=>(G.w_ y 1 o).trans F.2;exact K4 (v:=Jy d) (by simp [results,results10,go_sem,F1,F2,Jy]) rfl ⟨⟨d,HD.out,rfl⟩,I.alloc I.size _⟩
end Go.Proofs.YtdjaajjndfbpmaaGreatDoor
