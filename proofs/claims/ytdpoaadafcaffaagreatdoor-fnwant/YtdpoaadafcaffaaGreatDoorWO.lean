import Derived.Test.YtdpoaadafcaffaaGreatDoorEE
set_option linter.unusedVariables false
set_option maxHeartbeats 8000000
set_option maxRecDepth 100000
namespace Go.Proofs.YtdpoaadafcaffaaGreatDoor
open Proofs.Tryz
open Go.RowKit
open G (Q6)
open G.T (F2 L6 Y3 U3)
def qo (fs:List F2) (nm:ByteArray) (d:Dd):Prop:=(Y3 fs/\Y1 nm.data.toList=true/\∃ ms,Q6 fs ms/\Fa (o7 fs ms) nm d)\/((¬ Y3 fs\/Y1 nm.data.toList=false)/\d.ls=[]/\d.r=⟨2,⟨#[]⟩⟩)
def TG (nm:ByteArray):Dd:=⟨nm,false,X6,[],⟨2,⟨#[]⟩⟩,⟨#[]⟩⟩
def Av (d:Dd):Value:=.agg #[.int .i64 d.r.code,.string d.r.tx]
theorem Ql {i:Nat} {f:Func} {tm:Array Value} {U w:World} {fs:List F2} {nm:ByteArray} {d:Dd} {x0 x1:Value} (hr:f.results=#[.cell i 31]) (ht:tm[i]?=some (.pointer (some ⟨w.heap.size+1,0,none⟩))) (h0:U.cell? ⟨w.heap.size+1,0,none⟩=some x0) (h1:U.cell? ⟨w.heap.size+1,1,none⟩=some x1) (hd:qo fs nm d) (hB:Below w.heap.size w U):
 bodyPost prog f (fun e w'=>(∃ d,qo fs nm d/\e=.returned (Av d))/\Below w.heap.size w w') .ret ⟨tm,[]⟩ ((U.setCell ⟨w.heap.size+1,0,none⟩ (.int .i64 d.r.code)).setCell ⟨w.heap.size+1,1,none⟩ (.string d.r.tx)):=by
 have F:=G.D9 U (w.heap.size+1) (.int .i64 d.r.code) (.string d.r.tx) _ _ h0 h1;refine bodyPost_ret (v:=Av d) ?_ rfl ⟨⟨d,hd,rfl⟩,(hB.setCell U0 _).setCell U0 _⟩;simp [results,hr,go_sem,F.1,F.2,ht,Av]
theorem c7 (a:Option Addr) (cap:Nat) (fs:List F2) (nm:ByteArray) (w:World) (hl:fs.length<=1048576) (hs:∀ i,(fs.getD i L6).le 1048576) (hat:U3 w a fs) (hns:nm.size<=1048576):
 Calls prog 7 #[.agg #[.slice a fs.length cap],.string nm] w fun e w'=>(∃ d,qo fs nm d/\e=.returned (Av d))/\Below w.heap.size w w':=by
 have HAT:=Q0 hat;have HF:=Q0 hs;have hB0:∀ o1 o2,Below w.heap.size w ((w.alloc o1).alloc o2):=fun o1 o2=>bA.alloc U0 _;clear hat hs;go_enter func7,ntmps7
 go_wp2_with fail
 refine (G.T.c21 a cap fs _ hl HF.out (G.T.X0 HAT.out (hB0 _ _))).mono ?_;rintro e w1 ⟨⟨b,rfl,hb⟩,hb1⟩;have yP:=Q0 hb;have hB1:=(hB0 _ _).trans (hb1.mono X3);have hx1:Below (w.heap.size+2) ((w.alloc (.cells #[.slice a fs.length cap] 25)).alloc (.cells #[.int .i64 0,.string ⟨#[]⟩] 31)) w1:=by have h:=hb1;simp at h;exact h
 obtain ⟨q0,⟨y0,y1⟩,f0,f1⟩:=G.QG hx1;have hz1:w.heap.size+2<=w1.heap.size:=by have:=hx1.size;simp at this;omega
 clear hb hb1 hx1 hB0;cases b
 · have HW:Hid (qo fs nm (TG nm)):=.inr ⟨.inl (fun h=>by have:=yP.out.2 h;cases this),rfl,rfl⟩
   go_wp2;exact Ql (i:=4) rfl rfl y0 y1 HW.out hB1
 have HT:=Q0 (yP.out.1 rfl);clear yP
 go_wp2_with fail
 refine (Um nm w1 O0).mono ?_;rintro e w2 ⟨he,hw2⟩;obtain rfl:=hw2;cases hn:Y1 nm.data.toList
 · have e':e=.returned (.bool false):=by rw [he];exact congrArg (fun b=>Ending.returned (.bool b)) hn
   subst e';have HW:Hid (qo fs nm (TG nm)):=.inr ⟨.inr hn,rfl,rfl⟩;clear he;go_wp2;exact Ql (i:=4) rfl rfl y0 y1 HW.out hB1
 have e':e=.returned (.bool true):=by rw [he];exact congrArg (fun b=>Ending.returned (.bool b)) hn
 subst e';clear he;obtain ⟨ms,hp⟩:=Ni fs;have HP:=Q0 hp;clear hp
 go_upto_region 3 with fail
 obtain ⟨x0,hx0⟩:∃ x:World,x=w2.drew:=⟨_,rfl⟩;have hBx:Below w.heap.size w x0:=by rw [hx0];exact hB1.drew
 refine wp_region_held_drew (S:=fun u=>u.cell? ⟨w.heap.size,0,none⟩=some (.slice a fs.length cap)) I1 ?_ fun hH=>?_
 · exact q0
 rw [<- hx0] at hH ⊢;have hzx:w.heap.size+2<=x0.heap.size:=by rw [hx0];exact hz1
 have q0:x0.cell? ⟨w.heap.size,0,none⟩=some (.slice a fs.length cap):=hH;have y0:x0.cell? ⟨w.heap.size+1,0,none⟩=some (.int .i64 0):=by rw [hx0];exact y0
 have y1:x0.cell? ⟨w.heap.size+1,1,none⟩=some (.string ⟨#[]⟩):=by rw [hx0];exact y1
 have f0:x0.frozen? ⟨w.heap.size+1,0,none⟩=false:=by rw [hx0];exact f0
 have f1:x0.frozen? ⟨w.heap.size+1,1,none⟩=false:=by rw [hx0];exact f1
 clear hx0;refine tq 0 hH ?_;refine tq 1 hH ?_;refine tq 3 hH ?_
 try simp only [qq]
 refine rq 2 fun K hK=>?_;go_simp;refine (c24 (o7 fs ms) a cap fs ms rfl x0 (G.T.X0 HAT.out hBx) HT.out HP.out).mono ?_;rintro e x1 ⟨v,ws,rfl,hA,hM,hB⟩;obtain ⟨wa,wc,hv,hws⟩:=il hA.row;subst hv;have QP:=Q0 hws;have JM:Hid (ws.length<=300):=by have:=Ba HP.out;have:=congrArg List.length hM;simp at this;show _<=_;omega
 have HDO:=Q0 (Am HT.out HP.out hA.ok hM hB nm);have OO:Below x0.heap.size x0 x1:=hA.bl;clear hA hM hB hws;go_simp;clear hH;refine hK.out _ _ ?_ fun hH=>?_
 · exact (OO.cell (p:=⟨w.heap.size,0,none⟩) (by show w.heap.size<_;omega)).trans q0
 clear hK K
 try simp only [qq]
 refine rq 4 fun K hK=>?_;go_simp;refine (c23 a cap fs ms wa wc ws nm x1 hl HF.out (G.T.X0 HAT.out (bT hBx OO)) HT.out HP.out JM.out QP.out).mono ?_;rintro e x2 ⟨he,hb2⟩;obtain ⟨d,hd1,hd2⟩:∃ d,Fa (o7 fs ms) nm d/\e=.returned (Av d):=⟨_,HDO.out,by rw [he];unfold dW;split <;> rfl⟩;have HD:Hid (qo fs nm d):=.inl ⟨HT.out,hn,ms,HP.out,hd1⟩;unfold Av at hd2;subst hd2;clear he hd1 HDO;have hB2:=bT OO hb2;have z0:=(hB2.cell (p:=⟨w.heap.size+1,0,none⟩) (by show w.heap.size+1<_;omega)).trans y0;have z1:=(hB2.cell (p:=⟨w.heap.size+1,1,none⟩) (by show w.heap.size+1<_;omega)).trans y1;have k0:=(hB2.frozen (p:=⟨w.heap.size+1,0,none⟩) (by show w.heap.size+1<_;omega)).trans f0;have k1:=(hB2.frozen (p:=⟨w.heap.size+1,1,none⟩) (by show w.heap.size+1<_;omega)).trans f1;have q2:=(hB2.cell (p:=⟨w.heap.size,0,none⟩) (by show w.heap.size<_;omega)).trans q0;go_simp;clear hH;refine hK.out _ _ ?_ fun hH=>?_
 · exact q2
 clear hK K
 try simp only [qq]
 refine rq 5 fun K hK=>?_;go_simp;clear hH;refine hK.out _ _ ?_ fun hH=>?_
 · exact (Kg O0).trans q2
 clear hK K
 try simp only [qq]
 refine wpAnyH_done I1 ?_ _;clear hH;go_wp2;exact Ql (i:=4) rfl rfl z0 z1 HD.out (bT hBx hB2)
end Go.Proofs.YtdpoaadafcaffaaGreatDoor
