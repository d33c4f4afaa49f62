import Derived.Test.YtdjaajjndfbpmaaGreatDoorXD
set_option linter.unusedVariables false
set_option maxHeartbeats 8000000
set_option maxRecDepth 100000
namespace Go.Proofs.YtdjaajjndfbpmaaGreatDoor
open Proofs.Tryz
open Go.RowKit
open G (H6 jf Oa Ia)
open G.T (F2 P6 X3 F3)
theorem uG {fs:List F2} {ms:List M3} {n:ByteArray} {r:Bool} (a:H6 fs ms) (h:((∃ i,i<fs.length/\(fs.getD i P6).nm=n)/\r=true)\/∃ ms,H6 fs ms/\G.sH fs ms n (.returned (.bool r))):r=true↔¬ (Oa fs n/\Ia ms n):=by
 rcases h with ⟨⟨i,d,b⟩,rfl⟩ | ⟨ms',h1,r',e,h2⟩
 · exact ⟨fun _ c=>c.1 i d b,fun _=>rfl⟩
 obtain rfl:=G.o_ a h1;injection e with e;injection e with e;subst e;exact h2
theorem c13 (a:Option Addr) (cap:Nat) (fs:List F2) (da:Option Addr) (dc:Nat) (xs:List De) (w:World) (hl:fs.length<=1048576) (hs:∀ i,(fs.getD i P6).le 1048576) (hat:F3 w a fs) (hxl:xs.length<=481) (hx:∀ x∈xs,x.d.ls.length<=15/\x.d.nm.size<=1048576) (hda:Jn w da xs):
 Calls prog 13 #[.agg #[.slice a fs.length cap],.slice da xs.length dc] w fun e w'=>Xo (GA fs xs) e/\Below w.heap.size w w':=by
 have HAT:=Q0 hat;have HF:=Q0 hs;have HDA:=Q0 hda;have HX:=Q0 hx;have hB0:∀ o1,Below w.heap.size w (w.alloc o1):=fun o1=>bA;clear hat hs hda hx;go_enter func13,ntmps13
 go_wp2_with fail
 refine (G.T.c8 a cap fs _ hl HF.out (G.T.U0 HAT.out (hB0 _))).mono ?_;rintro e w1 ⟨⟨b,rfl,hb⟩,O⟩;have HBT:=Q0 hb;have hB1:=(hB0 _).trans (O.mono X0);have t1:w1.cell? ⟨w.heap.size,0,none⟩=some (.slice a fs.length cap):=(O.cell (p:=⟨w.heap.size,0,none⟩) X0).trans (by simp [go_sem]);have hz1:w.heap.size<w1.heap.size:=by have:=O.size;simp at this;omega
 have C0:=(U1 w [_] 25).below O X0;have C0:=Q0 C0;clear hb O hB0;cases b
 · have q:Hid (¬ GA fs xs):=fun c=>by have:=HBT.out.2 c.1;cases this
   go_wp2;go_ret;exact ⟨Xb q.out,hB1⟩
 have HT:=Q0 (HBT.out.1 rfl);clear HBT;obtain ⟨ms,hp⟩:=sj fs;have HP:=Q0 hp;clear hp
 go_wp2_with fail
 go_loopw [5] (fun r wr=>∃ k:Nat,r=.int .i64 k/\k<=xs.length/\Hid (Below w1.heap.size w1 wr)/\Hid (∀ j,j<k->LG fs (xs.getD j Pg).d)) (fun r _=>xs.length - (intOf r).toNat)
 case atStart=>exact ⟨0,rfl,I5 _,F4 _ _,fun j h=>absurd h (F5 _)⟩
 obtain ⟨k,rfl,hk,R,Q⟩:=hrel;have hBr:=bT hB1 R.out;by_cases hlt:k<xs.length;rotate_left
 · have HV:Hid (GA fs xs):=⟨HT.out,fun j hj=>Q.out j O0⟩
   clear Q;go_wp2;go_ret;exact ⟨Av HV.out,hBr⟩
 obtain ⟨g,la,lc,ha,hg,hm,XW,hlk,J⟩:=(HDA.out.below hBr).at hlt;subst ha;rw [XW] at J;have P:Hid (LG fs (xs.getD k Pg).d->∀ j,j<k+1->LG fs (xs.getD j Pg).d):=fun h j hj=>by
  rcases U5 j k with h1 | h1
  · exact Q.out j h1
  obtain rfl:j=k:=O0;exact h
 have n:Hid (¬ LG fs (xs.getD k Pg).d->¬ GA fs xs):=fun h c=>h (c.2 k hlt);obtain ⟨JV,hnz⟩:=HX.out _ hm;clear Q hm XW;generalize (xs.getD k Pg).d=d at*;obtain ⟨nm,md,⟨W,V,X⟩,ls,⟨rc,rt⟩,wt⟩:=d;dsimp only at JV hnz hlk;have g0:=J 0 _ rfl;have g1:=J 1 _ rfl;have g2:=J 2 _ rfl;have g3:=J 3 _ rfl;have g4:=J 4 _ rfl;have g5:=J 5 _ rfl;have g6:=J 6 _ rfl;have g7:=J 7 _ rfl;rw [Nh] at g0;dsimp only at g0 g1 g2 g3 g4 g5 g6 g7;obtain ⟨y,hy⟩:∃ y:World,y=wr.alloc (.cells #[.string nm,.bool md,.string W,.string V,.string X,.slice la ls.length lc,.int .i64 rc,.string rt] 50):=⟨_,rfl⟩;have hby:Below wr.heap.size wr y:=by rw [hy];exact bA
 have VR:=Q0 (M.Y_ hlk hby);have HBy:=Q0 (bT R.out hby);have H3:Hid (FH w w.heap.size wr.heap.size (.slice a fs.length cap) ⟨⟨nm,md,⟨W,V,X⟩,ls,⟨rc,rt⟩,wt⟩,.slice la ls.length lc⟩ y):=⟨bT hBr hby,C0.out.below HBy.out C0.out.lt,by rw [hy];exact U1 wr _ 50⟩;clear J hlk
 go_wp2_with fail
 rw [<- hy];refine (c24 nm y O0).mono ?_;rintro e w3 ⟨he,hw3⟩;obtain rfl:=hw3;clear hy hby g0 g1 g2 g3 g4 g5 g6 g7 R;generalize wr.heap.size=D at*;obtain ⟨U,H,F,E,C,B,l,A,s⟩:=H3.out.cells;dsimp only at H F E C B l A s;cases hn:J2 nm.data.toList
 · have e':e=.returned (.bool false):=by rw [he];exact V3 (fun b=>Ending.returned (.bool b)) hn
   subst e';have q:=Q0 (n.out (fun c=>by have:=c.1.symm.trans hn;cases this));clear he P n;go_wp2;go_ret;exact ⟨Xb q.out,H3.out.b⟩
 have e':e=.returned (.bool true):=by rw [he];exact V3 (fun b=>Ending.returned (.bool b)) hn
 subst e';clear he
 go_wp2_with fail
 refine (G.c37 a cap fs nm w3 hl HF.out (G.T.U0 HAT.out H3.out.b)).mono ?_;rintro e w4 ⟨⟨ms',hp',⟨xn,xt,xa⟩,th,rfl,hx⟩,hb4⟩;obtain rfl:=G.o_ HP.out hp';have I:=Q0 (H3.out.below hb4);have a0F:=Q0 (M.Y_ VR.out hb4);have NR:=Q0 (bT HBy.out hb4);have m:Hid (LG fs ⟨nm,md,⟨W,V,X⟩,ls,⟨rc,rt⟩,wt⟩↔Zv (P5 fs ms) ⟨nm,md,⟨W,V,X⟩,ls,⟨rc,rt⟩,wt⟩):=⟨fun ⟨_,ms',h1,h2⟩=>by obtain rfl:=G.o_ HP.out h1;exact h2,fun h=>⟨hn,ms,HP.out,h⟩⟩;have YW:=Q0 hx;clear hx hp' hb4 H3 VR HBy hn U H F E C B l A s;obtain ⟨U,H,F,E,C,B,l,A,s⟩:=I.out.cells;dsimp only at H F E C B l A s;have hzD:=I.out.h1.lt;have hzT:=I.out.h0.lt;cases md <;> cases th
 · have YY:Hid (Ia ms nm):=by
    rcases YW.out with ⟨c,_⟩ | ⟨_,h⟩
    · cases c
    exact h
   obtain ⟨⟨c,t⟩,HPL⟩:∃ p,Hid (jf fs ms nm=some p):=by
    cases h:jf fs ms nm with
    | none=>
     obtain ⟨i,hi,hn⟩:=(Hy HP.out nm).1 h;exact absurd hn (YY.out i hi)
    | some p=>exact ⟨p,rfl⟩
   have HE:Hid ((P5 fs ms).pl nm=some ⟨c,t⟩):=by show (jf fs ms nm).map Rq=_;rw [HPL.out];rfl
   clear YW YY
   go_wp2_with fail
   obtain ⟨y5,VY⟩:∃ y:World,y=w4.alloc (.cells #[.string xn,.string xt,.string xa] 47):=⟨_,rfl⟩;have hb5:Below w4.heap.size w4 y5:=by rw [VY];exact bA
   rw [<- VY];refine (G.kN a cap fs ms nm y5 hl HF.out (G.T.U0 HAT.out (I.out.below hb5).b) HT.out HP.out).mono ?_;rintro e w5 ⟨he,hb6⟩;have he:e=.returned (.tuple #[.agg #[.int .i64 c,.string t],.bool true]):=by rw [he,HPL.out];rfl
   subst he;have hbb:=bT hb5 hb6;have H5:=Q0 (I.out.below hbb);have MS:=Q0 (bT NR.out hbb);clear U H F E C B l A s I NR VY hb5 hb6 hbb hzD hzT;obtain ⟨U,H,F,E,C,B,l,A,s⟩:=H5.out.cells;dsimp only at H F E C B l A s;have hzD:=H5.out.h1.lt;by_cases N:c=rc/\t=rt
   · obtain ⟨rfl,rfl⟩:=N
     have HDn:=Q0 (P.out (m.out.2 (.inl ⟨rfl,HE.out⟩)));clear P n m;have fU:=Q0 (MS.out.alloc MS.out.size (.cells #[.int .i64 c,.string t] 34));go_wp2;go_roundw
     case rel=>exact ⟨k+1,by go_num,O0,fU,HDn⟩
     case measure=>simp [intOf];omega
   have q:=Q0 (n.out (fun h=>N (by
    rcases m.out.1 h with ⟨_,h⟩ | ⟨h,_⟩
    · have h:=HE.out.symm.trans h
      injection h with h;injection h with h1 h2;exact ⟨h1,h2⟩
    cases h)))
   have hq':¬ (c=rc/\t.toList=rt.toList):=fun ⟨h1,h2⟩=>N ⟨h1,(M.Gf _ _).1 h2⟩;clear P n m N;go_wp2
   all_goals first | exact absurd ⟨by assumption,by assumption⟩ hq' | (go_ret;exact ⟨Xb q.out,H5.out.b.alloc H5.out.b.size _⟩)
 · have q:=Q0 (n.out (fun c=>MJ HT.out HP.out YW.out (m.out.1 c)))
   clear P n m YW;go_wp2;go_ret;exact ⟨Xb q.out,I.out.b.alloc O0 _⟩
 · have q:=Q0 (n.out (fun c=>DJ YW.out (m.out.1 c)))
   clear P n m YW;go_wp2;go_ret;exact ⟨Xb q.out,I.out.b.alloc O0 _⟩
 obtain ⟨hme,hxn⟩:=iF (fs:=fs) YW.out;have hxn:xn=nm:=hxn;subst hxn;have UV:=Q0 hme;clear hme YW;have HEQ:Hid (Zv (P5 fs ms) ⟨xn,true,⟨W,V,X⟩,ls,⟨rc,rt⟩,wt⟩->xn=W/\xt=V/\xa=X):=fun h=>by
  rcases h with ⟨h,_⟩ | ⟨_,h1,h2,_⟩
  · cases h
  have e:=(zb HT.out HP.out).one _ _ UV.out h1 h2.symm;injection e with e1 e2 e3;exact ⟨e1,e2,e3⟩
 by_cases N:xn=W/\xt=V/\xa=X;rotate_left
 · have q:=Q0 (n.out (fun h=>N (HEQ.out (m.out.1 h))))
   have hq':¬ (xn.toList=W.toList/\xt.toList=V.toList/\xa.toList=X.toList):=fun ⟨h1,h2,h3⟩=>N ⟨(M.Gf _ _).1 h1,(M.Gf _ _).1 h2,(M.Gf _ _).1 h3⟩;clear P n m HEQ N;go_wp2
   all_goals first | exact absurd ⟨by assumption,by assumption,by assumption⟩ hq' | (go_ret;exact ⟨Xb q.out,I.out.b.alloc O0 _⟩)
 clear HEQ;obtain ⟨rfl,rfl,rfl⟩:=N
 go_upto_region 16 with fail
 obtain ⟨L,hy0⟩:∃ y:World,y=w4.alloc (.cells #[.string xn,.string xt,.string xa] 47):=⟨_,rfl⟩;have hb0:Below w4.heap.size w4 L:=by rw [hy0];exact bA
 have HY:=Q0 (I.out.below hb0);have HLY:=Q0 (M.Y_ a0F.out hb0);have zS:=Q0 (bT NR.out hb0);rw [<- hy0];clear U H F E C B l A s I hy0 hb0 a0F NR hzD hzT
 go_wp2_with fail
 go_loopw [11] (fun r wr=>∃ j:Nat,r=.int .i64 j/\j<=ls.length/\Hid (Below L.heap.size L wr)/\Hid (∀ i,i<j->BH (P5 fs ms) (ls.getD i M.Ga))) (fun r _=>ls.length - (intOf r).toNat)
 case atStart=>exact ⟨0,rfl,I5 _,F4 _ _,fun j h=>absurd h (F5 _)⟩
 obtain ⟨j,rfl,hj,R,Q⟩:=hrel;have HZ:=Q0 (HY.out.below R.out);have mW:=Q0 (bT zS.out R.out);by_cases hjl:j<ls.length;rotate_left
 · have HDn:=Q0 (P.out (m.out.2 (.inr ⟨rfl,UV.out,rfl,fun y hy=>by
    obtain ⟨i,hi,rfl⟩:=Lb hy;have hi:i<ls.length:=hi;have:=Q.out i O0;rw [show ls.getD i M.Ga=ls[i] from by simp [List.getD,hi]] at this;exact this⟩)))
   clear P n m Q;obtain ⟨U,H,F,E,C,B,l,A,s⟩:=HZ.out.cells
   try dsimp only at l
   go_wp2;go_roundw
   case rel=>exact ⟨k+1,by go_num,O0,mW,HDn⟩
   case measure=>simp [intOf];omega
 obtain ⟨Z,Y,ha,_,x0,x1,x2,x3⟩:=Ec HLY.out R.out hjl;subst ha;have HLj:Hid (BH (P5 fs ms) (ls.getD j M.Ga)->∀ i,i<j+1->BH (P5 fs ms) (ls.getD i M.Ga)):=fun h i hi=>by
  rcases U5 i j with h1 | h1
  · exact Q.out i h1
  obtain rfl:i=j:=O0;exact h
 have HNj:Hid (¬ BH (P5 fs ms) (ls.getD j M.Ga)->¬ GA fs xs):=fun h=>n.out (fun c=>by
  rcases m.out.1 c with ⟨c,_⟩ | ⟨_,_,_,c⟩
  · cases c
  exact h (c _ (by simp [List.getD,hjl])))
 clear Q;have HL:=fun u (hb:Below L.heap.size L u)=>Ec HLY.out hb hjl;generalize ls.getD j M.Ga=x at*;obtain ⟨yh,yn,yc,yt⟩:=x;dsimp only at x0 x1 x2 x3;have HV:Hid (∀ u,Below L.heap.size L u->u.cell? ⟨w.heap.size,0,none⟩=some (.slice a fs.length cap)/\u.cell? ⟨D,5,none⟩=some (.slice (some ⟨Z,Y,none⟩) ls.length lc)/\u.cell? ⟨Z,Y+j*4,none⟩=some (.bool yh)/\u.cell? ⟨Z,Y+j*4+1,none⟩=some (.string yn)/\u.cell? ⟨Z,Y+j*4+2,none⟩=some (.int .i64 yc)):=fun u hb=>by
  have h1:=HY.out.below hb;obtain ⟨b,o,e,_,k0,k1,k2,_⟩:=HL u hb;injection e with e;injection e with e1 e2;subst e1 e2;exact ⟨h1.h0.cell 0,h1.h1.cell 5,k0,k1,k2⟩
 clear HL x0 x1 x2 x3;obtain ⟨U,H,F,E,C,B,l,A,s⟩:=HZ.out.cells
 try dsimp only at l
 clear H F E C B A s
 go_upto_region 19 with fail
 obtain ⟨y1,hy1⟩:∃ y:World,y=wr.drew:=⟨_,rfl⟩;have O:Below L.heap.size L y1:=by rw [hy1];exact R.out.drew
 refine F7 (S:=fun u=>u.cell? ⟨w.heap.size,0,none⟩=some (.slice a fs.length cap)/\u.cell? ⟨D,5,none⟩=some (.slice (some ⟨Z,Y,none⟩) ls.length lc)/\u.cell? ⟨Z,Y+j*4,none⟩=some (.bool yh)/\u.cell? ⟨Z,Y+j*4+1,none⟩=some (.string yn)/\u.cell? ⟨Z,Y+j*4+2,none⟩=some (.int .i64 yc)) U2 ?_ fun f=>?_
 · exact HV.out _ R.out.drew
 rw [<- hy1] at f ⊢;clear hy1 U l;refine tq 0 f ?_;simp only [qq];refine tq 1 f ?_;simp only [qq];refine tq 2 f ?_;simp only [qq];refine tq 3 f ?_;simp only [qq];refine tq 4 f ?_;simp only [qq];refine tq 5 f ?_;simp only [qq];refine tq 6 f ?_;simp only [qq];cases yh
 · have HDn:=Q0 (HLj.out (fun c=>by cases c))
   clear HLj HNj;refine uq 7 f ?_;simp only [qq];refine uq 8 f ?_;simp only [qq];refine uq 9 f ?_;simp only [qq];refine uq 10 f ?_;simp only [qq];refine uq 11 f ?_;simp only [qq];refine uq 12 f ?_;simp only [qq];refine uq 13 f ?_;simp only [qq];refine uq 14 f ?_;simp only [qq];refine uq 15 f ?_;simp only [qq];refine uq 16 f ?_;simp only [qq];refine uq 17 f ?_;simp only [qq];refine uq 18 f ?_;simp only [qq];refine uq 19 f ?_;simp only [qq];refine uq 20 f ?_;simp only [qq];refine uq 21 f ?_;simp only [qq];refine uq 22 f ?_;simp only [qq];refine uq 23 f ?_;simp only [qq];refine tq 24 f ?_;simp only [qq];refine a_ ?_;clear f;go_wp2;go_roundw
   case rel=>exact ⟨j+1,by go_num,O0,O,HDn⟩
   case measure=>simp [intOf];omega
 refine tq 7 f ?_;simp only [qq];refine tq 8 f ?_;simp only [qq];refine tq 9 f ?_;simp only [qq];refine tq 10 f ?_;simp only [qq];refine tq 11 f ?_;simp only [qq];refine tq 12 f ?_;simp only [qq];refine tq 13 f ?_;simp only [qq];refine tq 15 f ?_;simp only [qq];refine tq 16 f ?_;simp only [qq];refine tq 17 f ?_;simp only [qq];refine tq 18 f ?_;simp only [qq];refine tq 19 f ?_;simp only [qq];refine tq 20 f ?_;simp only [qq];refine tq 21 f ?_;simp only [qq];refine tq 22 f ?_;simp only [qq];refine rq 14 fun K hK=>?_;go_simp;refine (G.TP a cap fs yn y1 hl HF.out (G.T.U0 HAT.out (HY.out.below O).b)).mono ?_;rintro e y2 ⟨⟨r,rfl,hr⟩,hb2⟩;have hr:=uG HP.out hr;have ZY:Hid (r=true↔((P5 fs ms).sn yn).code=0):=by
  show r=true↔(Rq (Jg fs ms yn)).code=0;rw [Jp hr];cases r <;> simp [Rq]
 have HB2:=Q0 (bT O hb2);clear hr;go_simp;clear f;refine Z6 hK (HV.out _ HB2.out) fun f=>?_;clear hK K;have aZ:=Q0 (fB (yt:=yt) ZY.out (yc:=yc));generalize (yc==0)=z at*;by_cases UR:z=r
 · have HDn:=Q0 (HLj.out (aZ.out.1 UR))
   subst UR;clear HLj HNj aZ ZY;refine tq (v:=.bool false) 23 f ?_ (hv:=by intro u hu;cases z <;> simp [go_sem]);simp only [qq];refine tq 24 f ?_;simp only [qq];refine a_ ?_;clear f;go_wp2;go_roundw
   case rel=>exact ⟨j+1,by go_num,O0,HB2,HDn⟩
   case measure=>simp [intOf];omega
 have q:=Q0 (HNj.out (fun h=>UR (aZ.out.2 h)));clear HLj HNj aZ ZY;refine tq (v:=.bool true) 23 f ?_ (hv:=by intro u hu;cases z <;> cases r <;> first | exact absurd rfl UR | simp [go_sem]);simp only [qq];refine tq 24 f ?_;simp only [qq];refine a_ ?_;clear f;go_wp2;go_ret;exact ⟨Xb q.out,(HY.out.below HB2.out).b⟩
end Go.Proofs.YtdjaajjndfbpmaaGreatDoor
