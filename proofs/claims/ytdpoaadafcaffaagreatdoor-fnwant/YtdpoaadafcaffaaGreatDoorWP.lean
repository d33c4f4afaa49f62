import Derived.Test.YtdpoaadafcaffaaGreatDoorWO
set_option linter.unusedVariables false
set_option maxHeartbeats 8000000
set_option maxRecDepth 100000
namespace Go.Proofs.YtdpoaadafcaffaaGreatDoor
open Proofs.Tryz
open Go.RowKit
open G (Q6)
open G.T (F2 L6 Y3 U3)
structure Std (w:World):Prop where
 vz:G.ng w
 sh:Z5 w
 mx:N8 w
 ten:10<=w.heap.size
theorem fI {a:Option Addr} {cap:Nat} {fs:List F2} {ms:List M3} {nm:ByteArray} {w w2:World} (hat:U3 w a fs) (ht:Y3 fs) (hp:Q6 fs ms) (hn:Y1 nm.data.toList=true) (hst:Std w) (hB:Below w.heap.size w w2) {e:Ending} {w3:World} (h:vk w2 fs (.slice a fs.length cap) e w3):∃ kb,e=.returned (.pointer (some ⟨kb,0,none⟩))/\Calls prog 20 #[.pointer (some ⟨kb,0,none⟩),.string nm] w3 fun e w'=>∃ (d:Dd) (la:Option Addr) (c:Nat),e=.returned (.tuple #[.agg (De.vs ⟨d,.slice la d.ls.length c⟩).toArray,.string d.wt])/\qo fs nm d/\w'.ownsRow w.heap.size 45 4 (.slice la d.ls.length c) d.ls.length (I4 d.ls)/\Below w2.heap.size w2 w':=by
 obtain ⟨kb,mr,mw,pv,ms',rfl,hk,hm1,hm2,hrow,hpt,l1,l2,l3,hne,hb3⟩:=h;obtain rfl:=G.Bc hp hpt;refine ⟨kb,rfl,?_⟩;have hle:=hB.size;have MQ:=hst.ten;have hf:Rx ⟨w2,kb,mr,mw,a,cap,fs,pv,ms⟩ (o7 fs ms):=⟨by show 10<=w2.heap.size;omega,Ja hst.sh hB MQ,je hst.mx hB MQ,G.T.X0 hat hB,ht,hp,rfl⟩;refine (c20 _ _ hf _ nm w3 (lI (a:=a) (cap:=cap) (fs:=fs) hk hm1 hm2 hrow l1 l2 l3 hne hb3) (SH (o7 fs ms) kb mr mw pv) rfl hn).mono ?_;rintro e w4 ⟨d,la,c,rfl,hd,hr,hb4,_⟩;exact ⟨d,la,c,rfl,.inl ⟨ht,hn,ms,hp,hd⟩,V4 hr (Nat.le_trans hle hb3.size),hb3.trans hb4⟩
theorem c6 (a:Option Addr) (cap:Nat) (fs:List F2) (nm:ByteArray) (w:World) (hl:fs.length<=1048576) (hs:∀ i,(fs.getD i L6).le 1048576) (hat:U3 w a fs) (hns:nm.size<=1048576) (hst:Std w):
 Calls prog 6 #[.agg #[.slice a fs.length cap],.string nm] w fun e w'=>(∃ d,qo fs nm d/\e=.returned (Av d))/\Below w.heap.size w w':=by
 have HAT:=Q0 hat;have HF:=Q0 hs;have HST:=Q0 hst;have hB0:∀ o1 o2,Below w.heap.size w ((w.alloc o1).alloc o2):=fun o1 o2=>bA.alloc U0 _;clear hat hs hst;go_enter func6,ntmps6
 go_wp2_with fail
 refine (G.T.c16 a cap fs _ hl HF.out (G.T.X0 HAT.out (hB0 _ _))).mono ?_;rintro e w1 ⟨⟨b,rfl,hb⟩,hb1⟩;have yP:=Q0 hb;have hB1:=(hB0 _ _).trans (hb1.mono X3);have hx1:Below (w.heap.size+2) ((w.alloc (.cells #[.slice a fs.length cap] 25)).alloc (.cells #[.int .i64 0,.string ⟨#[]⟩] 31)) w1:=by have h:=hb1;simp at h;exact h
 obtain ⟨q0,⟨y0,y1⟩,f0,f1⟩:=G.QG hx1;have hz1:w.heap.size+2<=w1.heap.size:=by have:=hx1.size;simp at this;omega
 clear hb hb1 hx1 hB0;cases b
 · have HW:Hid (qo fs nm (TG nm)):=.inr ⟨.inl (fun h=>by have:=yP.out.2 h;cases this),rfl,rfl⟩
   go_wp2;exact Ql (i:=4) rfl rfl y0 y1 HW.out hB1
 have HT:=Q0 (yP.out.1 rfl);clear yP
 go_wp2_with fail
 refine (c17 nm w1 O0).mono ?_;rintro e w2 ⟨he,hw2⟩;obtain rfl:=hw2;cases hn:Y1 nm.data.toList
 · have e':e=.returned (.bool false):=by rw [he];exact congrArg (fun b=>Ending.returned (.bool b)) hn
   subst e';have HW:Hid (qo fs nm (TG nm)):=.inr ⟨.inr hn,rfl,rfl⟩;clear he;go_wp2;exact Ql (i:=4) rfl rfl y0 y1 HW.out hB1
 have e':e=.returned (.bool true):=by rw [he];exact congrArg (fun b=>Ending.returned (.bool b)) hn
 subst e';clear he;have HN:=Q0 hn;clear hn;obtain ⟨ms,hp⟩:=Ni fs;have HP:=Q0 hp;clear hp
 go_wp2_with fail
 refine (c19 a cap fs _ hl HF.out (G.T.X0 HAT.out hB1) (HST.out.vz.below hB1)).mono ?_;rintro e w3 h;obtain ⟨kb,rfl,h2⟩:=fI HAT.out HT.out HP.out HN.out HST.out hB1 h;have HC:=Q0 h2;clear h h2
 go_wp2_with fail
 refine HC.out.mono ?_;rintro e w4 ⟨d,la,lc,rfl,hd,hr,hb4⟩;have HD:=Q0 hd;clear hd hr HC;unfold De.vs;have z0:=(hb4.cell (p:=⟨w.heap.size+1,0,none⟩) (by show w.heap.size+1<_;omega)).trans y0;have z1:=(hb4.cell (p:=⟨w.heap.size+1,1,none⟩) (by show w.heap.size+1<_;omega)).trans y1;have k0:=(hb4.frozen (p:=⟨w.heap.size+1,0,none⟩) (by show w.heap.size+1<_;omega)).trans f0;have k1:=(hb4.frozen (p:=⟨w.heap.size+1,1,none⟩) (by show w.heap.size+1<_;omega)).trans f1;have hB4:=bT hB1 hb4;have zN:w.heap.size+1<w4.heap.size:=Nat.le_trans hz1 hb4.size;clear y0 y1 f0 f1 q0 hb4;go_wp2;have F:=G.D9 w4 (w.heap.size+1) (.int .i64 d.r.code) (.string d.r.tx) _ _ z0 z1;have qM:Below w.heap.size w ((w4.setCell ⟨w.heap.size+1,0,none⟩ (.int .i64 d.r.code)).setCell ⟨w.heap.size+1,1,none⟩ (.string d.r.tx)):=(hB4.setCell U0 _).setCell U0 _;have YL:w.heap.size+1<((w4.setCell ⟨w.heap.size+1,0,none⟩ (.int .i64 d.r.code)).setCell ⟨w.heap.size+1,1,none⟩ (.string d.r.tx)).heap.size:=by simpa using zN
 generalize ((w4.setCell ⟨w.heap.size+1,0,none⟩ (.int .i64 d.r.code)).setCell ⟨w.heap.size+1,1,none⟩ (.string d.r.tx))=U at*;have F1:=fun o=>(G.N9 YL 0 o).trans F.1;have F2:=fun o=>(G.N9 YL 1 o).trans F.2;exact bodyPost_ret (v:=Av d) (by simp [results,Tryz.results6,go_sem,F1,F2,Av]) rfl ⟨⟨d,HD.out,rfl⟩,qM.alloc qM.size _⟩
theorem c11 (a:Option Addr) (cap:Nat) (fs:List F2) (nm:ByteArray) (w:World) (hl:fs.length<=1048576) (hs:∀ i,(fs.getD i L6).le 1048576) (hat:U3 w a fs) (hns:nm.size<=1048576) (hst:Std w):
 Calls prog 11 #[.agg #[.slice a fs.length cap],.string nm] w fun e w'=>(∃ d v,qo fs nm d/\e=.returned v/\w'.ownsRow w.heap.size 45 4 v d.ls.length (I4 d.ls))/\Below w.heap.size w w':=by
 have HAT:=Q0 hat;have HF:=Q0 hs;have HST:=Q0 hst;have hB0:∀ o1,Below w.heap.size w (w.alloc o1):=fun o1=>bA;clear hat hs hst;go_enter func11,ntmps11
 go_wp2_with fail
 refine (G.T.c16 a cap fs _ hl HF.out (G.T.X0 HAT.out (hB0 _))).mono ?_;rintro e w1 ⟨⟨b,rfl,hb⟩,hb1⟩;have yP:=Q0 hb;have hB1:=(hB0 _).trans (hb1.mono U0);have t1:w1.cell? ⟨w.heap.size,0,none⟩=some (.slice a fs.length cap):=(hb1.cell (p:=⟨w.heap.size,0,none⟩) U0).trans (by simp [go_sem]);clear hb hb1 hB0;cases b
 · have HW:Hid (qo fs nm (TG nm)):=.inr ⟨.inl (fun h=>by have:=yP.out.2 h;cases this),rfl,rfl⟩
   go_wp2;go_ret;exact ⟨⟨_,_,HW.out,rfl,World.ownsRow_nil _ _ _ _⟩,hB1⟩
 have HT:=Q0 (yP.out.1 rfl);clear yP
 go_wp2_with fail
 refine (c17 nm w1 O0).mono ?_;rintro e w2 ⟨he,hw2⟩;obtain rfl:=hw2;cases hn:Y1 nm.data.toList
 · have e':e=.returned (.bool false):=by rw [he];exact congrArg (fun b=>Ending.returned (.bool b)) hn
   subst e';have HW:Hid (qo fs nm (TG nm)):=.inr ⟨.inr hn,rfl,rfl⟩;clear he;go_wp2;go_ret;exact ⟨⟨_,_,HW.out,rfl,World.ownsRow_nil _ _ _ _⟩,hB1⟩
 have e':e=.returned (.bool true):=by rw [he];exact congrArg (fun b=>Ending.returned (.bool b)) hn
 subst e';clear he;have HN:=Q0 hn;clear hn;obtain ⟨ms,hp⟩:=Ni fs;have HP:=Q0 hp;clear hp
 go_wp2_with fail
 refine (c19 a cap fs _ hl HF.out (G.T.X0 HAT.out hB1) (HST.out.vz.below hB1)).mono ?_;rintro e w3 h;obtain ⟨kb,rfl,h2⟩:=fI HAT.out HT.out HP.out HN.out HST.out hB1 h;have HC:=Q0 h2;clear h h2
 go_wp2_with fail
 refine HC.out.mono ?_;rintro e w4 ⟨d,la,lc,rfl,hd,hr,hb4⟩;have HD:=Q0 hd;have UN:=Q0 hr;have hB4:=bT hB1 hb4;clear hd hr HC hb4 t1;unfold De.vs
 go_upto_region 4 with (refine Ye rfl 38 _ _ rfl (B:=w4.heap.size) (j:=0) rfl (vs:=De.vs ⟨d,.slice la d.ls.length lc⟩) rfl (F3 w4 [.string ⟨#[]⟩,.bool false,.string ⟨#[]⟩,.string ⟨#[]⟩,.string ⟨#[]⟩,.slice none 0 0,.int .i64 0,.string ⟨#[]⟩] 38) (by simp [De.vs]) (by intro v hv;simp [De.vs] at hv;rcases hv with rfl | rfl | rfl | rfl | rfl | rfl | rfl | rfl <;> rfl) I1 ?_;intro w5 rR QN)
 have hb5:=bA.trans (QN.below Q8);have a0r:Cl w5 w4.heap.size 38 (De.vs ⟨d,.slice la d.ls.length lc⟩):=rR;have d5:w5.cell? ⟨w4.heap.size,5,none⟩=some (.slice la d.ls.length lc):=a0r.cell 5;have PL:=Q0 (ownsRow_below UN.out hb5);have dM:=Q0 (bT hB4 hb5);clear rR a0r QN hb5 hB4;go_wp2;go_ret;exact ⟨⟨d,_,HD.out,rfl,PL.out⟩,dM.out⟩
end Go.Proofs.YtdpoaadafcaffaaGreatDoor
