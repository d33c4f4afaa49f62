import Derived.Test.YtkdbheidpdjimaaGreatDooreQC
set_option linter.unusedVariables false
set_option maxHeartbeats 8000000
set_option maxRecDepth 100000
namespace Go.Proofs.YtkdbheidpdjimaaGreatDoor
open Proofs.Tryz Go.RowKit Go.Maps
theorem But.rW {b:Nat} {w w':World} (h:w.grownBy w' (some b)):But b w w':=⟨h.os,h.tape,h.output,h.size,fun k c a=>h.block k c (fun e=>a (Q9 e))⟩
theorem a0b (w:World) (x y:Value) (t:TypeId):∀ j u,[x,y][j]?=some u->(w.alloc (.cells #[x,y] t)).cell? ((⟨w.heap.size,0,none⟩:Addr).add j)=some u:=by
 intro j u h;rw [Nb,E8];exact I5 w [x,y] t j u h
theorem dW (c:Int) (s a:BY) (w:World) (hf:QA c s=a) (b:s.size<=1048700):Calls prog 224 #[.agg #[.int .i64 c,.string s]] w fun e w'=>e=.returned (.string a)/\Bw w w':=by
 subst hf;exact aP c s w b
theorem iW (s:BY) (n:Int) (a:BY) (w:World) (hm:E5 s n=a) (b:s.size<=1048700):Calls prog 112 #[.string s,.int .i64 n] w fun e w'=>e=.returned (.string a)/\Bw w w':=by
 subst hm;exact MI s n w b
theorem NU {c:Int} {t:BY} (h:vr c t.data.toList=true):t.size<=300:=by
 rcases o8 300 t.data.toList.length with h1 | h1
 · rw [UE h1] at h;cases h
 · simpa using h1
theorem Lp (c:Int) (t:BY):(QA c t).size<=t.size+2:=by
 have e:t.data.toList.length=t.size:=Xt;unfold QA;rw [J5];unfold l7;split
 · simp only [A_];omega
 · simp only [Xe];omega
theorem aY {ls:List L4} (h:jg ls):∀ r∈v_ ls,vr r.1 r.2.data.toList=true:=by
 have h2:∀ x∈ls,Vh x:=fun x hx=>by
  obtain ⟨i,b,e⟩:=Ee hx;have:=h.2 i b
  rwa [show ls.getD i O_=x by simp [List.getD,y9 b,e]] at this
 clear h
 induction ls with
 | nil=>intro r hr;cases hr
 | cons x q ih=>
  intro r hr;have a:=ih (fun y c=>h2 y (ug _ c));unfold v_ at hr
  cases hx:x.has with
  | true=>rw [hx] at hr;exact a r hr
  | false=>
   rw [hx] at hr;rcases ve.1 hr with rfl | hr
   · rcases (h2 x (Gq ..)).2 with ⟨k,_⟩ | ⟨_,k⟩
     · rw [hx] at k;cases k
     · exact k
   · exact a r hr
theorem VU {ls:List L4} {c:Int} {t:BY} {k:Nat} (h:k<(v_ ls).length+1):(Xh ls c t).take (k+1)=(Xh ls c t).take k++[QA ((v_ ls++[(c,t)]).getD k (0,ByteArray.empty)).1 ((v_ ls++[(c,t)]).getD k (0,ByteArray.empty)).2]:=by
 have b:k<(Xh ls c t).length:=by simp [Xh];omega
 rw [pq,y9 b];have a:k<(v_ ls++[(c,t)]).length:=U7;simp only [Xh,dD,Option.toList_some];rw [show (v_ ls++[(c,t)]).getD k (0,ByteArray.empty)=(v_ ls++[(c,t)])[k] by simp only [List.getD,y9 a,Ac]]
theorem PL {E:World} {base:Nat} {c:OA} {j n:Nat} {l:List (Int×ByteArray)} (h:E.ownsRow base 103 2 (.slice c n j) l.length (XA l)) (e:l≠[]):∃ g,c=some ⟨g,0,none⟩/\(g<E.heap.size/\base<=g)/\∀ k,k<l.length->E.cell? ⟨g,k*2,none⟩=some (.int .i64 (l.getD k (0,ByteArray.empty)).1)/\E.cell? ⟨g,k*2+1,none⟩=some (.string (l.getD k (0,ByteArray.empty)).2):=by
 have b:=h;have d:∀ (l:List (Int×ByteArray)) (k:Nat),k<l.length->(XA l)[k*2]?=some (vI (l.getD k (0,ByteArray.empty)).1)/\(XA l)[k*2+1]?=some (vS (l.getD k (0,ByteArray.empty)).2):=by
  intro l
  induction l with
  | nil=>intro k a;exact absurd a (o9 _)
  | cons x r ih=>
   intro k a
   cases k with
   | zero=>exact ⟨rfl,rfl⟩
   | succ k=>
    have:=ih k (by simpa using a);have e1:(k+1)*2=k*2+1+1:=O0;rw [e1];exact this
 rcases h.2 with ⟨hv,h0⟩ | ⟨g,cap,cur,hv,i,f,_⟩
 · exact absurd (Ya.1 h0) e
 · simp only [Gy] at hv;obtain ⟨rfl,rfl,rfl⟩:=hv;refine ⟨g,rfl,⟨(D_.1 f).1,i⟩,fun k a=>?_⟩;rw [b.cellAt (k*2) O0,b.cellAt (k*2+1) O0];exact d l k a
def a1F (W:Int) (ts:LB) (fs:LB) (w w':World) (e:Ending):Prop:=
 (∃ bF f ts',e=.returned (.tuple #[.map (some bF),.bool true])/\w.heap.size<=bF/\w'.ownsMap prog 9 Y_ bF f.length (mapD f)/\Fr W (ts.map (gT W)) f ts'/\X6 W fs (ts,true)=(ts',true))\/
 (e=.returned (.tuple #[.map none,.bool false])/\(X6 W fs (ts,true)).2=false)
theorem a0Y (B H bT bR bP:Nat) (W:Int) (ts:LB) (rs:List R3) (rv:List Value) (ls:List L4) (c:Int) (t:BY) (a:OA) (cap:Nat) (w:World) (hSh:Sh B H bT bR bP W (ts.map (gT W)) rs rv w) (hW:1<=W/\W<=8) (hA:Zh W ts) (hok:jg ls) (hv:vr c t.data.toList=true) (hl:ls.length<=1048576) (hat:I9 w a ls):
 Calls prog 178 #[.pointer (some ⟨H,0,none⟩),.slice a ls.length cap,.agg #[.int .i64 c,.string t]] w fun e w'=>a1F W ts (Xh ls c t) w w' e/\Bw w w':=by
 obtain ⟨i0,hi,hz0,hz1,hz2⟩:=info_parts' MK;obtain ⟨pl,hCC,hR⟩:=hSh;obtain ⟨es,ck,hTw,hTF,hTs,hTD⟩:=hCC.tx;have hbT:=(D_.1 hTw).1;have HLT:Hid (∀ (u:World) (k:BY),k.size<=maxLen->u.heap[bT]?=some (.map es ck)->(Instr.lookup 184 (.map (some bT)) (vS k) true).run prog u=.ok (.tuple #[(X_ (ts.map (gT W)) k).getD (.agg #[vE,vO,vE]),.bool (X_ (ts.map (gT W)) k).isSome]) u):=fun u k hk hu=>
  Zt (n:=(ts.map (gT W)).length) ⟨es,ck,hu,hTF,hTs,hTD⟩ underlying184 J3 hk
 have HVR:Hid (∀ k,k<(v_ ls++[(c,t)]).length->vr ((v_ ls++[(c,t)]).getD k (0,ByteArray.empty)).1 ((v_ ls++[(c,t)]).getD k (0,ByteArray.empty)).2.data.toList=true):=fun k hk=>by
  have e:(v_ ls++[(c,t)]).getD k (0,ByteArray.empty)=(v_ ls++[(c,t)])[k]:=by simp only [List.getD,y9 hk,Ac]
  rw [e];rcases jh.1 (Bj hk) with h | h
  · exact aY hok _ h
  · rw [dw.1 h];exact hv
 have HAS:=U0 hA;have HWD:=U0 hW;have a4C:=hCC.lt;have hll:=hok.1;have hml:=Zy ls;have hmm:=@run_makeMap prog;have HM1:Hid ((v_ ls).length+1<=maxLen):=by show _<=_;unfold maxLen;omega
 have HM2:Hid (((v_ ls).length+1)*24<=140737488355328):=by show _<=_;omega
 have s0:(w.alloc (.cells #[vI c,vS t] 103)).heap.size=w.heap.size+1:=I4;have s1:((w.alloc (.cells #[vI c,vS t] 103)).alloc (.map #[] 0)).heap.size=w.heap.size+2:=I4;have BU:Bw w ((w.alloc (.cells #[vI c,vS t] 103)).alloc (.map #[] 0)):=o7.alloc I4 _;have HLK:=U0 (N7 hat BU);have M0:=World.ownsMap_made (w.alloc (.cells #[vI c,vS t] 103)) prog 9 Y_;rw [s0] at M0;have MU:Hid (((w.alloc (.cells #[vI c,vS t] 103)).alloc (.map #[] 0)).ownsMap prog 9 Y_ (w.heap.size+1) ([]:List (ByteArray×Value)).length (mapD [])):=M0;have e0:((w.alloc (.cells #[vI c,vS t] 103)).alloc (.map #[] 0)).cell? (aW w 0)=some (vI c):=by simp [go_sem]
 have e1:((w.alloc (.cells #[vI c,vS t] 103)).alloc (.map #[] 0)).cell? (aW w 1)=some (vS t):=by simp [go_sem]
 clear hat M0 hA hW hok hv hTF hTs hTD;go_enter func178,ntmps178
 go_wp2_with fail
 rename_i K0 hK0;generalize ((w.alloc (.cells #[vI c,vS t] 103)).alloc (.map #[] 0))=A at*;have TAIL:∀ (va:Value) (q:Nat) (a4:OA) (a2u:Nat) (E:World),Bw A E->Hid (E.ownsRow A.heap.size 103 2 (vL a4 ((v_ ls).length+1) a2u) ((v_ ls).length+1) (XA (v_ ls)++[vI c,vS t]))->K0 { tmps:=#[.pointer (some (aA H 0)),vL a ls.length cap,.agg #[vI c,vS t],undef,undef,.pointer (some (aW w 0)),.map none,.bool false,.map (some (w.heap.size+1)),undef,undef,undef,undef,undef,undef,.map (some (w.heap.size+1)),vL a ls.length cap,va,.agg #[vI c,vS t],vL (some (aA q 0)) 1 1,vL a4 ((v_ ls).length+1) a2u,vI ((v_ ls).length+1:Nat),vO,undef,undef,undef,undef,undef,undef,undef,undef,undef,undef,undef,undef,undef,undef,undef,undef,undef,undef,undef,undef,undef,undef,undef,undef,undef,undef,undef,undef,undef,undef,undef,undef,undef,undef,undef,undef,undef,undef,undef,undef,undef,undef,undef,undef],defers:=[] } E:=by
  intro va q a4 a2u E hE O4;have hEs:=hE.size;obtain ⟨g,rfl,hgE,hgc⟩:=PL (l:=(v_ ls++[(c,t)])) (by rw [AB];simpa using O4.out) I4;have HGC:=U0 hgc;have BWE:=BU.trans (hE.mono O0);have CE:=hCC.below BWE;have hE0:=CE.blk 0 _ rfl;have hE1:=CE.blk 1 _ rfl;have hTE:=(BWE.block bT hbT).trans hTw;have ME:=U0 (z_ MU.out hE O0);have hHZ:=a4C;have hgN:g≠w.heap.size+1:=O0;clear hgc O4 CE;refine hK0 _ _ ?_;clear hK0
  go_wp2_with fail
  go_loopw [22] (fun i wr=>∃ (k:Nat) (f:List (ByteArray×Value)) (tk:List ByteArray),k<=(v_ ls).length+1/\i=.int .i64 k/\Hid (wr.ownsMap prog 9 Y_ (w.heap.size+1) f.length (mapD f))/\Hid (Fr W (ts.map (gT W)) f tk)/\Hid (X6 W ((Xh ls c t).take k) (ts,true)=(tk,true))/\f.length<=k/\But (w.heap.size+1) E wr) (fun i _=>(v_ ls).length+1 - (Go.RowKit.intOf i).toNat)
  case atStart=>exact ⟨0,[],ts,D5 _,rfl,ME,Fr.start HAS.out,rfl,Y9 _,But.refl _ _⟩
  case round=>
   obtain ⟨k,f,tk,hk,rfl,HMr,Y,HPu,hfk,BTr⟩:=hrel;have szr:=BTr.size;by_cases hlt:k<(v_ ls).length+1
   · have gk:=HGC.out k (by simpa using hlt);have g0:=(BTr.cell (p:=(aA g (k*2))) hgE.1 hgN).trans gk.1;have g1:=(BTr.cell (p:=(aA g (k*2+1))) hgE.1 hgN).trans gk.2;have HTK:=U0 (VU (c:=c) (t:=t) hlt);have hvr:=HVR.out k (by simpa using hlt);generalize ((v_ ls++[(c,t)])).getD k (0,ByteArray.empty)=r at*;clear gk;obtain ⟨b,hfm⟩:∃ b,QA r.1 r.2=b:=⟨_,rfl⟩;have HFM:=U0 hfm;have HVF:=U0 (hfm▸oZ hvr);have hr3:=NU hvr;have hr7:r.2.size<=1048700:=O0;have a5s:b.size<=1048700:=by rw [<- hfm];have:=Lp r.1 r.2;omega
     rw [hfm] at HTK;obtain ⟨x,hsm⟩:∃ x,E5 b W=x:=⟨_,rfl⟩;have R:=U0 hsm;have Z:Hid (x.size<=maxLen):=by show _<=_;rw [<- hsm,Wp HWD.out];have:=HWD.out;unfold maxLen;omega
     clear hfm hsm;have d0:=I5 wr [vI r.1,vS r.2] 103 0 _ rfl;have d1:=I5 wr [vI r.1,vS r.2] 103 1 _ rfl;have sz0:(wr.alloc (.cells #[vI r.1,vS r.2] 103)).heap.size=wr.heap.size+1:=I4;have BX0:Bw wr (wr.alloc (.cells #[vI r.1,vS r.2] 103)):=o7
     go_wp2_with fail
     generalize (wr.alloc (.cells #[vI r.1,vS r.2] 103))=x0 at*;clear g0 g1;refine wp_region_held_drew (S:=(fun u=>u.cell? (aW wr 0)=some (vI r.1)/\u.cell? (aW wr 1)=some (vS r.2))) J3 ?_ fun hHeld=>?_
     · exact ⟨d0,d1⟩
     refine Y0 0 ?_;refine Y0 2 ?_;refine wpAnyH_ready (rs:=[1,4]) J3 I4 ?_;refine AllReadyH.cons (o:=⟨some 27,.call ⟨.value (.func 224),#[.tmp 26],#[103]⟩,9,_,_,none⟩) rfl (fun K s=>?_) (AllReadyH.cons (o:=⟨some 11,.alloc 192,0,_,_,none⟩) rfl (fun K s=>?_) AllReadyH.nil)
     · go_simp;refine (dW r.1 r.2 b _ HFM.out hr7).mono ?_;rintro e x1 ⟨rfl,a6d⟩
       go_wp2_with fail
       have b1:=((Z4 _ _).drew).trans (a6d.mono (by show wr.heap.size+1<=x0.heap.size;omega));have sx1:=b1.size;have a4X:=(b1.cell (p:=(aW wr 0)) (by show wr.heap.size<wr.heap.size+1;omega)).trans d0;have a4Y:=(b1.cell (p:=(aW wr 1)) (by show wr.heap.size<wr.heap.size+1;omega)).trans d1;clear hHeld;refine J8 s ⟨a4X,a4Y⟩ fun hHeld=>?_;clear s K;refine Y0 3 ?_;refine rq 4 fun K s=>?_;go_simp;have bX:Below (wr.heap.size+1) x1 (x1.alloc (.cells #[vE,vO,vE] 192)):=(Z4 _ _).alloc O0 _;have BX:=b1.trans bX;have ZX:Hid (X4 (x1.alloc (.cells #[vE,vO,vE] 192)) x1.heap.size [vE,vO,vE]):=U0 (I5 x1 [vE,vO,vE] 192);have FX:Hid (Y5 (x1.alloc (.cells #[vE,vO,vE] 192)) x1.heap.size):=U0 (N8 x1 #[vE,vO,vE] 192);have sX:(x1.alloc (.cells #[vE,vO,vE] 192)).heap.size=x1.heap.size+1:=I4;have a4Z:=(BX.cell (p:=(aW wr 0)) (by show wr.heap.size<wr.heap.size+1;omega)).trans d0;have a5a:=(BX.cell (p:=(aW wr 1)) (by show wr.heap.size<wr.heap.size+1;omega)).trans d1;clear hHeld;refine J8 s ⟨a4Z,a5a⟩ fun hHeld=>?_;clear s K;clear bX;generalize (x1.alloc (.cells #[vE,vO,vE] 192))=x2 at*;refine rq 5 fun K s=>?_;refine U6 rfl 192 (.tmp 11) (.tmp 29) rfl x1.heap.size 0 rfl [vS b,vI r.1,vS r.2] rfl (j_ ZX.out rfl) FX.out (by simp [Value.oneCell']) J3 rfl ?_;clear hHeld;refine Xf (old:=[vE,vO,vE]) (N:=wr.heap.size+1) rfl ZX.out FX.out O0 ?_;intro x3 hb3 ZB FB hs3 ho3;have L:=BX.trans hb3;have a4k:=(L.cell (p:=(aW wr 0)) (by show wr.heap.size<wr.heap.size+1;omega)).trans d0;have a4l:=(L.cell (p:=(aW wr 1)) (by show wr.heap.size<wr.heap.size+1;omega)).trans d1;refine J8 s ⟨a4k,a4l⟩ fun hHeld=>?_;clear s K hHeld ZX FX hb3 ho3;refine wdn ?_;have BT3:=BTr.trans (But.of_below (BX0.trans (L.mono O0)));have M3:=U0 (z_ HMr.out (BX0.trans (L.mono O0)) O0);have h0:=(BT3.cell (p:=(aA H 0)) (show H<E.heap.size by omega) (show H≠w.heap.size+1 by omega)).trans hE0;have a0:=ZB 0 _ rfl;clear L BX a4k a4l d0 d1 FB
       go_wp2_with fail
       refine wp_region_held_drew (S:=(fun u=>u.cell? (aW x1 0)=some (vS b)/\u.cell? (aA H 0)=some (vI W))) J3 ?_ fun hHeld=>?_
       · exact ⟨a0,h0⟩
       refine Y0 0 ?_;refine Y0 1 ?_;refine Y0 2 ?_;refine Y0 3 ?_;refine Y0 4 ?_;refine Y0 5 ?_;refine rq 6 fun K s=>?_;go_simp;refine (iW b W x _ R.out a5s).mono ?_;rintro e d ⟨rfl,hb4⟩
       go_wp2_with fail
       have b4:Bw x3 d:=((Z4 _ _).drew).trans hb4;have s4:=b4.size;have ZC:=U0 (ZB.below b4 O0);have J:=BT3.trans (But.of_below b4);have M4:=U0 (z_ M3.out b4 O0);have Q:=ZC.out 0 _ rfl;have a2:=ZC.out 1 _ rfl;have V:=ZC.out 2 _ rfl;have h1:=(J.cell (p:=(aA H 0)) (show H<E.heap.size by omega) (show H≠w.heap.size+1 by omega)).trans hE0;have h2:=(J.cell (p:=(aA H 1)) (show H<E.heap.size by omega) (show H≠w.heap.size+1 by omega)).trans hE1;have hT4:=(J.block bT O0 O0).trans hTE;clear hHeld hb4;refine J8 s ⟨Q,h1⟩ fun hHeld=>?_;clear s K;refine Y0 7 ?_;refine wdn ?_;clear hHeld;clear ZB M3 BT3 a0 h0;have a4m:=BWE.trans (J.below O0 O0);have szZ:w.heap.size<=d.heap.size:=O0
       cases hqm:X_ (ts.map (gT W)) x with
       | some v=>
        obtain ⟨y,hvy,U⟩:=Y.out.met (W:=W) (t:=b) (by rw [R.out];exact .inl hqm);have F:Hid (X6 W ((Xh ls c t).take (k+1)) (ts,true)=(tk,decide (y=b))):=by
         show X6 _ _ _=_;rw [HTK.out,Qa,HPu.out];show ((W_ W b tk).1,true&&(W_ W b tk).2)=_;rw [U];rfl
        clear U;subst hvy;by_cases D:y=b
        · have hy2:=D.symm;subst hy2;have X:Hid (X6 W ((Xh ls c t).take (k+1)) (ts,true)=(tk,true)):=by have h:=F.out;rw [y_ rfl] at h;exact h
          clear F D;have C:=HLT.out d x Z.out hT4;rw [hqm] at C;simp only [Ac,Ov] at C;rw [HVF.out] at C;have m:Bw d (d.alloc (.cells #[vS b,vI r.1,vS r.2] 192)):=o7;have n0:=(m.cell (p:=(aW x1 0)) (show x1.heap.size<d.heap.size by omega)).trans Q;have n1:=(m.cell (p:=(aW x1 1)) (show x1.heap.size<d.heap.size by omega)).trans a2;have n2:=(m.cell (p:=(aW x1 2)) (show x1.heap.size<d.heap.size by omega)).trans V;go_wp2;go_roundw
          case rel=>exact ⟨k+1,f,tk,O0,by go_num,U0 (z_ M4.out m O0),Y,X,O0,J.trans (But.of_below m)⟩
          case measure=>simp [Go.RowKit.intOf];omega
        · have HNO:Hid ((X6 W (Xh ls c t) (ts,true)).2=false):=by
           show (X6 _ _ _).2=false;have h:=F.out;rw [P9 D] at h;rw [<- Gi (k+1) (Xh ls c t),Qa,h];exact Ip _ _ _
          have hne:¬ y.toList=b.toList:=fun e=>D ((Fj y b).1 e);clear F;have C:=HLT.out d x Z.out hT4;rw [hqm] at C;simp only [Ac,Ov] at C;unfold hV at C;have m:Bw d (d.alloc (.cells #[vS y,vI (hC y),vS (hT y)] 192)):=o7;have n0:=(m.cell (p:=(aW x1 0)) (show x1.heap.size<d.heap.size by omega)).trans Q;have n1:=(m.cell (p:=(aW x1 1)) (show x1.heap.size<d.heap.size by omega)).trans a2;have n2:=(m.cell (p:=(aW x1 2)) (show x1.heap.size<d.heap.size by omega)).trans V;go_wp2;go_ret2;exact ⟨.inr ⟨rfl,HNO.out⟩,a4m.trans (m.mono O0)⟩
       | none=>
        have C:=HLT.out d x Z.out hT4;rw [hqm] at C;simp only [KD,iD] at C;have P:Bw d (d.alloc (.cells #[vE,vO,vE] 192)):=o7;have m0:=(P.cell (p:=(aW x1 0)) (show x1.heap.size<d.heap.size by omega)).trans Q;have m1:=(P.cell (p:=(aW x1 1)) (show x1.heap.size<d.heap.size by omega)).trans a2;have m2:=(P.cell (p:=(aW x1 2)) (show x1.heap.size<d.heap.size by omega)).trans V;have M5:=z_ M4.out P O0;have I:=Zt (k:=x) (z:=.agg #[vE,vO,vE]) M5 underlying184 J3 Z.out;clear M5
        cases hqf:X_ f x with
        | some v=>
         obtain ⟨y,hvy,U⟩:=Y.out.met (W:=W) (t:=b) (by rw [R.out];exact .inr hqf);have F:Hid (X6 W ((Xh ls c t).take (k+1)) (ts,true)=(tk,decide (y=b))):=by
          show X6 _ _ _=_;rw [HTK.out,Qa,HPu.out];show ((W_ W b tk).1,true&&(W_ W b tk).2)=_;rw [U];rfl
         clear U;subst hvy;by_cases D:y=b
         · have hy2:=D.symm;subst hy2;have X:Hid (X6 W ((Xh ls c t).take (k+1)) (ts,true)=(tk,true)):=by have h:=F.out;rw [y_ rfl] at h;exact h
           clear F D;rw [hqf] at I;simp only [Ac,Ov] at I;rw [HVF.out] at I;have m:Bw d (d.alloc (.cells #[vS b,vI r.1,vS r.2] 192)):=o7;have n0:=(m.cell (p:=(aW x1 0)) (show x1.heap.size<d.heap.size by omega)).trans Q;have n1:=(m.cell (p:=(aW x1 1)) (show x1.heap.size<d.heap.size by omega)).trans a2;have n2:=(m.cell (p:=(aW x1 2)) (show x1.heap.size<d.heap.size by omega)).trans V;go_wp2;go_roundw
           case rel=>exact ⟨k+1,f,tk,O0,by go_num,U0 (z_ M4.out m O0),Y,X,O0,J.trans (But.of_below m)⟩
           case measure=>simp [Go.RowKit.intOf];omega
         · have HNO:Hid ((X6 W (Xh ls c t) (ts,true)).2=false):=by
            show (X6 _ _ _).2=false;have h:=F.out;rw [P9 D] at h;rw [<- Gi (k+1) (Xh ls c t),Qa,h];exact Ip _ _ _
           have hne:¬ y.toList=b.toList:=fun e=>D ((Fj y b).1 e);clear F;rw [hqf] at I;simp only [Ac,Ov] at I;unfold hV at I;have m:Bw d (d.alloc (.cells #[vS y,vI (hC y),vS (hT y)] 192)):=o7;have n0:=(m.cell (p:=(aW x1 0)) (show x1.heap.size<d.heap.size by omega)).trans Q;have n1:=(m.cell (p:=(aW x1 1)) (show x1.heap.size<d.heap.size by omega)).trans a2;have n2:=(m.cell (p:=(aW x1 2)) (show x1.heap.size<d.heap.size by omega)).trans V;go_wp2;go_ret2;exact ⟨.inr ⟨rfl,HNO.out⟩,a4m.trans (m.mono O0)⟩
        | none=>
         rw [hqf] at I;simp only [KD,iD] at I;have M5:=U0 (z_ M4.out P O0);have HFL:Hid (f.length<maxLen):=by show _<_;unfold maxLen;omega
         have HV2:Hid (Y_ (.agg #[vS b,vI r.1,vS r.2])=some (.held (hV b),[])):=by show Y_ _=_;rw [HVF.out];rfl
         have HAD:=U0 (Y.out.add (t:=b) (by rw [R.out];exact hqm) (by rw [R.out];exact hqf));have X:Hid (X6 W ((Xh ls c t).take (k+1)) (ts,true)=(Tj W b tk,true)):=by
          show X6 _ _ _=_;rw [HTK.out,Qa,HPu.out];show ((W_ W b tk).1,true&&(W_ W b tk).2)=_;rw [HAD.out.1];rfl
         have HG:Hid (gT W b=(x,hV b)):=by show (E5 b W,hV b)=_;rw [R.out]
         go_wp2_with (at_mapUpdate;refine wpList_mapUpdate_own _ rfl _ _ _ 184 rfl 9 192 Rt underlying184 Y_ (w.heap.size+1) f.length (mapD f) rfl M5.out HFL.out _ _ (kS x) rfl rfl (keyS Z.out) (.held (hV b)) [] HV2.out ?_;intro x6 O hg6)
         rw [Es _ hqf] at O
         replace O:=Nh O
         rw [Eb] at O;have hfl:(Rf (x,hV b) f).length=f.length+1:=by rw [(Dc _ _).length_eq];rfl
         have a5b:Hid (Fr W (ts.map (gT W)) (Rf (x,hV b) f) (Tj W b tk)):=by have h:=HAD.out.2;rw [HG.out] at h;exact h
         have HM6:=U0 O;have BT6:=(J.trans (But.of_below P)).trans (But.rW hg6);clear O hg6;go_roundw
         case rel=>exact ⟨k+1,Rf (x,hV b) f,Tj W b tk,O0,by go_num,HM6,a5b,X,O0,BT6⟩
         case measure=>simp [Go.RowKit.intOf];omega
     · go_simp;have bX:Below (wr.heap.size+1) x0 ((x0.alloc (.cells #[vE,vO,vE] 192)).drew):=((Z4 _ _).alloc O0 _).drew;have ZX0:Hid (X4 ((x0.alloc (.cells #[vE,vO,vE] 192)).drew) (wr.heap.size+1) [vE,vO,vE]):=U0 (sz0▸(I5 x0 [vE,vO,vE] 192));have FX0:Hid (Y5 ((x0.alloc (.cells #[vE,vO,vE] 192)).drew) (wr.heap.size+1)):=U0 (sz0▸(N8 x0 #[vE,vO,vE] 192));have sX:((x0.alloc (.cells #[vE,vO,vE] 192)).drew).heap.size=wr.heap.size+2:=U7;have a4X:=(bX.cell (p:=(aW wr 0)) (by show wr.heap.size<wr.heap.size+1;omega)).trans d0;have a4Y:=(bX.cell (p:=(aW wr 1)) (by show wr.heap.size<wr.heap.size+1;omega)).trans d1;clear hHeld;refine J8 s ⟨a4X,a4Y⟩ fun hHeld=>?_;clear s K;generalize ((x0.alloc (.cells #[vE,vO,vE] 192)).drew)=x1 at*;refine rq 1 fun K s=>?_;go_simp;refine (dW r.1 r.2 b _ HFM.out hr7).mono ?_;rintro e x2 ⟨rfl,hbx2⟩
       go_wp2_with fail
       have sx2:=hbx2.size;have BX:=bX.trans (hbx2.mono O0);have ZX:=U0 (ZX0.out.below hbx2 O0);have FX:=U0 (FX0.out.below hbx2 O0);have a4Z:=(BX.cell (p:=(aW wr 0)) (by show wr.heap.size<wr.heap.size+1;omega)).trans d0;have a5a:=(BX.cell (p:=(aW wr 1)) (by show wr.heap.size<wr.heap.size+1;omega)).trans d1;clear hHeld;refine J8 s ⟨a4Z,a5a⟩ fun hHeld=>?_;clear s K;refine Y0 3 ?_;refine rq 5 fun K s=>?_;refine U6 rfl 192 (.tmp 11) (.tmp 29) rfl (wr.heap.size+1) 0 rfl [vS b,vI r.1,vS r.2] rfl (j_ ZX.out rfl) FX.out (by simp [Value.oneCell']) J3 rfl ?_;clear hHeld;refine Xf (old:=[vE,vO,vE]) (N:=wr.heap.size+1) rfl ZX.out FX.out O0 ?_;intro x3 hb3 ZB FB hs3 ho3;have L:=BX.trans hb3;have a4k:=(L.cell (p:=(aW wr 0)) (by show wr.heap.size<wr.heap.size+1;omega)).trans d0;have a4l:=(L.cell (p:=(aW wr 1)) (by show wr.heap.size<wr.heap.size+1;omega)).trans d1;refine J8 s ⟨a4k,a4l⟩ fun hHeld=>?_;clear s K hHeld ZX FX hb3 ho3;refine wdn ?_;have BT3:=BTr.trans (But.of_below (BX0.trans (L.mono O0)));have M3:=U0 (z_ HMr.out (BX0.trans (L.mono O0)) O0);have h0:=(BT3.cell (p:=(aA H 0)) (show H<E.heap.size by omega) (show H≠w.heap.size+1 by omega)).trans hE0;have a0:=ZB 0 _ rfl;clear L BX a4k a4l d0 d1 FB
       go_wp2_with fail
       refine wp_region_held_drew (S:=(fun u=>u.cell? (aA (wr.heap.size+1) 0)=some (vS b)/\u.cell? (aA H 0)=some (vI W))) J3 ?_ fun hHeld=>?_
       · exact ⟨a0,h0⟩
       refine Y0 0 ?_;refine Y0 1 ?_;refine Y0 2 ?_;refine Y0 3 ?_;refine Y0 4 ?_;refine Y0 5 ?_;refine rq 6 fun K s=>?_;go_simp;refine (iW b W x _ R.out a5s).mono ?_;rintro e d ⟨rfl,hb4⟩
       go_wp2_with fail
       have b4:Bw x3 d:=((Z4 _ _).drew).trans hb4;have s4:=b4.size;have ZC:=U0 (ZB.below b4 O0);have J:=BT3.trans (But.of_below b4);have M4:=U0 (z_ M3.out b4 O0);have Q:=ZC.out 0 _ rfl;have a2:=ZC.out 1 _ rfl;have V:=ZC.out 2 _ rfl;have h1:=(J.cell (p:=(aA H 0)) (show H<E.heap.size by omega) (show H≠w.heap.size+1 by omega)).trans hE0;have h2:=(J.cell (p:=(aA H 1)) (show H<E.heap.size by omega) (show H≠w.heap.size+1 by omega)).trans hE1;have hT4:=(J.block bT O0 O0).trans hTE;clear hHeld hb4;refine J8 s ⟨Q,h1⟩ fun hHeld=>?_;clear s K;refine Y0 7 ?_;refine wdn ?_;clear hHeld;clear ZB M3 BT3 a0 h0;have a4m:=BWE.trans (J.below O0 O0);have szZ:w.heap.size<=d.heap.size:=O0
       cases hqm:X_ (ts.map (gT W)) x with
       | some v=>
        obtain ⟨y,hvy,U⟩:=Y.out.met (W:=W) (t:=b) (by rw [R.out];exact .inl hqm);have F:Hid (X6 W ((Xh ls c t).take (k+1)) (ts,true)=(tk,decide (y=b))):=by
         show X6 _ _ _=_;rw [HTK.out,Qa,HPu.out];show ((W_ W b tk).1,true&&(W_ W b tk).2)=_;rw [U];rfl
        clear U;subst hvy;by_cases D:y=b
        · have hy2:=D.symm;subst hy2;have X:Hid (X6 W ((Xh ls c t).take (k+1)) (ts,true)=(tk,true)):=by have h:=F.out;rw [y_ rfl] at h;exact h
          clear F D;have C:=HLT.out d x Z.out hT4;rw [hqm] at C;simp only [Ac,Ov] at C;rw [HVF.out] at C;have m:Bw d (d.alloc (.cells #[vS b,vI r.1,vS r.2] 192)):=o7;have n0:=(m.cell (p:=(aA (wr.heap.size+1) 0)) (show (wr.heap.size+1)<d.heap.size by omega)).trans Q;have n1:=(m.cell (p:=(aA (wr.heap.size+1) 1)) (show (wr.heap.size+1)<d.heap.size by omega)).trans a2;have n2:=(m.cell (p:=(aA (wr.heap.size+1) 2)) (show (wr.heap.size+1)<d.heap.size by omega)).trans V;go_wp2;go_roundw
          case rel=>exact ⟨k+1,f,tk,O0,by go_num,U0 (z_ M4.out m O0),Y,X,O0,J.trans (But.of_below m)⟩
          case measure=>simp [Go.RowKit.intOf];omega
        · have HNO:Hid ((X6 W (Xh ls c t) (ts,true)).2=false):=by
           show (X6 _ _ _).2=false;have h:=F.out;rw [P9 D] at h;rw [<- Gi (k+1) (Xh ls c t),Qa,h];exact Ip _ _ _
          have hne:¬ y.toList=b.toList:=fun e=>D ((Fj y b).1 e);clear F;have C:=HLT.out d x Z.out hT4;rw [hqm] at C;simp only [Ac,Ov] at C;unfold hV at C;have m:Bw d (d.alloc (.cells #[vS y,vI (hC y),vS (hT y)] 192)):=o7;have n0:=(m.cell (p:=(aA (wr.heap.size+1) 0)) (show (wr.heap.size+1)<d.heap.size by omega)).trans Q;have n1:=(m.cell (p:=(aA (wr.heap.size+1) 1)) (show (wr.heap.size+1)<d.heap.size by omega)).trans a2;have n2:=(m.cell (p:=(aA (wr.heap.size+1) 2)) (show (wr.heap.size+1)<d.heap.size by omega)).trans V;go_wp2;go_ret2;exact ⟨.inr ⟨rfl,HNO.out⟩,a4m.trans (m.mono O0)⟩
       | none=>
        have C:=HLT.out d x Z.out hT4;rw [hqm] at C;simp only [KD,iD] at C;have P:Bw d (d.alloc (.cells #[vE,vO,vE] 192)):=o7;have m0:=(P.cell (p:=(aA (wr.heap.size+1) 0)) (show (wr.heap.size+1)<d.heap.size by omega)).trans Q;have m1:=(P.cell (p:=(aA (wr.heap.size+1) 1)) (show (wr.heap.size+1)<d.heap.size by omega)).trans a2;have m2:=(P.cell (p:=(aA (wr.heap.size+1) 2)) (show (wr.heap.size+1)<d.heap.size by omega)).trans V;have M5:=z_ M4.out P O0;have I:=Zt (k:=x) (z:=.agg #[vE,vO,vE]) M5 underlying184 J3 Z.out;clear M5
        cases hqf:X_ f x with
        | some v=>
         obtain ⟨y,hvy,U⟩:=Y.out.met (W:=W) (t:=b) (by rw [R.out];exact .inr hqf);have F:Hid (X6 W ((Xh ls c t).take (k+1)) (ts,true)=(tk,decide (y=b))):=by
          show X6 _ _ _=_;rw [HTK.out,Qa,HPu.out];show ((W_ W b tk).1,true&&(W_ W b tk).2)=_;rw [U];rfl
         clear U;subst hvy;by_cases D:y=b
         · have hy2:=D.symm;subst hy2;have X:Hid (X6 W ((Xh ls c t).take (k+1)) (ts,true)=(tk,true)):=by have h:=F.out;rw [y_ rfl] at h;exact h
           clear F D;rw [hqf] at I;simp only [Ac,Ov] at I;rw [HVF.out] at I;have m:Bw d (d.alloc (.cells #[vS b,vI r.1,vS r.2] 192)):=o7;have n0:=(m.cell (p:=(aA (wr.heap.size+1) 0)) (show (wr.heap.size+1)<d.heap.size by omega)).trans Q;have n1:=(m.cell (p:=(aA (wr.heap.size+1) 1)) (show (wr.heap.size+1)<d.heap.size by omega)).trans a2;have n2:=(m.cell (p:=(aA (wr.heap.size+1) 2)) (show (wr.heap.size+1)<d.heap.size by omega)).trans V;go_wp2;go_roundw
           case rel=>exact ⟨k+1,f,tk,O0,by go_num,U0 (z_ M4.out m O0),Y,X,O0,J.trans (But.of_below m)⟩
           case measure=>simp [Go.RowKit.intOf];omega
         · have HNO:Hid ((X6 W (Xh ls c t) (ts,true)).2=false):=by
            show (X6 _ _ _).2=false;have h:=F.out;rw [P9 D] at h;rw [<- Gi (k+1) (Xh ls c t),Qa,h];exact Ip _ _ _
           have hne:¬ y.toList=b.toList:=fun e=>D ((Fj y b).1 e);clear F;rw [hqf] at I;simp only [Ac,Ov] at I;unfold hV at I;have m:Bw d (d.alloc (.cells #[vS y,vI (hC y),vS (hT y)] 192)):=o7;have n0:=(m.cell (p:=(aA (wr.heap.size+1) 0)) (show (wr.heap.size+1)<d.heap.size by omega)).trans Q;have n1:=(m.cell (p:=(aA (wr.heap.size+1) 1)) (show (wr.heap.size+1)<d.heap.size by omega)).trans a2;have n2:=(m.cell (p:=(aA (wr.heap.size+1) 2)) (show (wr.heap.size+1)<d.heap.size by omega)).trans V;go_wp2;go_ret2;exact ⟨.inr ⟨rfl,HNO.out⟩,a4m.trans (m.mono O0)⟩
        | none=>
         rw [hqf] at I;simp only [KD,iD] at I;have M5:=U0 (z_ M4.out P O0);have HFL:Hid (f.length<maxLen):=by show _<_;unfold maxLen;omega
         have HV2:Hid (Y_ (.agg #[vS b,vI r.1,vS r.2])=some (.held (hV b),[])):=by show Y_ _=_;rw [HVF.out];rfl
         have HAD:=U0 (Y.out.add (t:=b) (by rw [R.out];exact hqm) (by rw [R.out];exact hqf));have X:Hid (X6 W ((Xh ls c t).take (k+1)) (ts,true)=(Tj W b tk,true)):=by
          show X6 _ _ _=_;rw [HTK.out,Qa,HPu.out];show ((W_ W b tk).1,true&&(W_ W b tk).2)=_;rw [HAD.out.1];rfl
         have HG:Hid (gT W b=(x,hV b)):=by show (E5 b W,hV b)=_;rw [R.out]
         go_wp2_with (at_mapUpdate;refine wpList_mapUpdate_own _ rfl _ _ _ 184 rfl 9 192 Rt underlying184 Y_ (w.heap.size+1) f.length (mapD f) rfl M5.out HFL.out _ _ (kS x) rfl rfl (keyS Z.out) (.held (hV b)) [] HV2.out ?_;intro x6 O hg6)
         rw [Es _ hqf] at O
         replace O:=Nh O
         rw [Eb] at O;have hfl:(Rf (x,hV b) f).length=f.length+1:=by rw [(Dc _ _).length_eq];rfl
         have a5b:Hid (Fr W (ts.map (gT W)) (Rf (x,hV b) f) (Tj W b tk)):=by have h:=HAD.out.2;rw [HG.out] at h;exact h
         have HM6:=U0 O;have BT6:=(J.trans (But.of_below P)).trans (But.rW hg6);clear O hg6;go_roundw
         case rel=>exact ⟨k+1,Rf (x,hV b) f,Tj W b tk,O0,by go_num,HM6,a5b,X,O0,BT6⟩
         case measure=>simp [Go.RowKit.intOf];omega
   · obtain rfl:k=(v_ ls).length+1:=O0;have HPF:Hid (X6 W (Xh ls c t) (ts,true)=(tk,true)):=by have h:=HPu.out;rw [u_ (by simp [Xh])] at h;exact h
     go_wp2;go_ret2;exact ⟨.inl ⟨w.heap.size+1,f,tk,rfl,O0,HMr.out,Y.out,HPF.out⟩,BWE.trans (BTr.below O0 O0)⟩
 refine wp_region_held_drew (S:=(fun u=>u.cell? (aW w 0)=some (vI c)/\u.cell? (aW w 1)=some (vS t))) J3 ?_ fun hHeld=>?_
 · exact ⟨e0,e1⟩
 refine Y0 0 ?_;refine Y0 2 ?_;refine Y0 6 ?_;refine wpAnyH_ready (rs:=[1,3]) J3 I4 ?_;refine AllReadyH.cons (o:=⟨some 17,.call ⟨.value (.func 223),#[.tmp 16],#[102]⟩,330,_,_,none⟩) rfl (fun K s=>?_) (AllReadyH.cons (o:=⟨some 19,.buildSlice 330 1 #[(0,.tmp 18)],330,_,_,none⟩) rfl (fun K s=>?_) AllReadyH.nil)
 · go_simp;refine (a0m ls a cap _ hl (N7 HLK.out ((Z4 _ _).drew))).mono ?_;rintro e u2 ⟨⟨va,rfl,hva⟩,a6e⟩
   go_wp2_with fail
   have B2:Bw A u2:=((Z4 _ _).drew).trans a6e;have s2:=B2.size;have hdr:A.drew.heap.size<=A.heap.size/\A.heap.size<=A.drew.heap.size:=⟨Y9 _,Y9 _⟩;have p0:=(B2.cell (p:=(aW w 0)) (by show w.heap.size<A.heap.size;omega)).trans e0;have p1:=(B2.cell (p:=(aW w 1)) (by show w.heap.size<A.heap.size;omega)).trans e1;clear hHeld;refine J8 s ⟨p0,p1⟩ fun hHeld=>?_;clear s K;refine rq 3 fun K s=>?_;go_simp;have bA:Bw u2 (u2.alloc (.cells #[vI c,vS t] 103)):=o7;have cA:=a0b u2 (vI c) (vS t) 103;have sA:(u2.alloc (.cells #[vI c,vS t] 103)).heap.size=u2.heap.size+1:=I4;have q0:=(bA.cell (p:=(aW w 0)) (by show w.heap.size<u2.heap.size;omega)).trans p0;have q1:=(bA.cell (p:=(aW w 1)) (by show w.heap.size<u2.heap.size;omega)).trans p1;clear hHeld;refine J8 s ⟨q0,q1⟩ fun hHeld=>?_;clear s K;have hv2:=U0 (own_below hva bA);have L:=B2.trans (bA.mono s2);generalize (u2.alloc (.cells #[vI c,vS t] 103))=u3 at*;refine rq 4 fun K s=>?_;refine Vj rfl (.tmp 17) (.tmp 19) 330 rfl _ 103 i0 (.agg #[vO,vE]) 2 24 underlying330 hi hz0 hz1 hz2 rfl O6 va _ _ rfl hv2.out (aW u2 0) 1 1 [vI c,vS t] rfl rfl cA (by simp [Value.oneCell']) HM1.out HM2.out O0 ?_;intro v4 u4 ho4 hg4 hl4;have B4:=L.trans (a_ hg4 (fun j e=>Q7 O0 (P6 hv2.out e)) O0);have s4:=B4.size;have O4:=U0 (H9 ho4 (base':=A.heap.size) O0);obtain ⟨a4,a2u,hv4⟩:=U9 O4.out;have k0:=(B4.cell (p:=(aW w 0)) (by show w.heap.size<A.heap.size;omega)).trans e0;have k1:=(B4.cell (p:=(aW w 1)) (by show w.heap.size<A.heap.size;omega)).trans e1;subst hv4;clear hHeld;refine J8 s ⟨k0,k1⟩ fun hHeld=>?_;clear s K;refine Y0 5 ?_;refine wdn ?_;exact TAIL va u2.heap.size a4 a2u u4 B4 O4
 · go_simp;have bA:Bw A ((A.alloc (.cells #[vI c,vS t] 103)).drew):=o7.drew;have cA0:=a0b A (vI c) (vS t) 103;have sA:((A.alloc (.cells #[vI c,vS t] 103)).drew).heap.size=A.heap.size+1:=I4;have q0:=(bA.cell (p:=(aW w 0)) (by show w.heap.size<A.heap.size;omega)).trans e0;have q1:=(bA.cell (p:=(aW w 1)) (by show w.heap.size<A.heap.size;omega)).trans e1;clear hHeld;refine J8 s ⟨q0,q1⟩ fun hHeld=>?_;clear s K;have cA1:∀ j u,[Value.int .i64 c,vS t][j]?=some u->((A.alloc (.cells #[vI c,vS t] 103)).drew).cell? ((aW A 0).add j)=some u:=cA0;generalize ((A.alloc (.cells #[vI c,vS t] 103)).drew)=u2 at*;refine rq 1 fun K s=>?_;go_simp;refine (a0m ls a cap _ hl (N7 HLK.out bA)).mono ?_;rintro e u3 ⟨⟨va,rfl,hva⟩,a4n⟩
   go_wp2_with fail
   have s3:=a4n.size;have L:=bA.trans (a4n.mono O0);have q2:=(a4n.cell (p:=(aW w 0)) (by show w.heap.size<u2.heap.size;omega)).trans q0;have q3:=(a4n.cell (p:=(aW w 1)) (by show w.heap.size<u2.heap.size;omega)).trans q1;have cA:∀ j u,[Value.int .i64 c,vS t][j]?=some u->u3.cell? ((aA (w.heap.size+2) 0).add j)=some u:=fun j u h=>by
    rw [<- s1];exact (a4n.cell (by rw [Nb];show A.heap.size<u2.heap.size;omega)).trans (cA1 j u h)
   clear hHeld;refine J8 s ⟨q2,q3⟩ fun hHeld=>?_;clear s K;have hv2:=U0 hva;refine rq 4 fun K s=>?_;refine Vj rfl (.tmp 17) (.tmp 19) 330 rfl _ 103 i0 (.agg #[vO,vE]) 2 24 underlying330 hi hz0 hz1 hz2 rfl O6 va _ _ rfl hv2.out (aA (w.heap.size+2) 0) 1 1 [vI c,vS t] rfl rfl cA (by simp [Value.oneCell']) HM1.out HM2.out O0 ?_;intro v4 u4 ho4 hg4 hl4;have B4:=L.trans (a_ hg4 (fun j e=>Q7 O0 (P6 hv2.out e)) O0);have s4:=B4.size;have O4:=U0 (H9 ho4 (base':=A.heap.size) O0);obtain ⟨a4,a2u,hv4⟩:=U9 O4.out;have k0:=(B4.cell (p:=(aW w 0)) (by show w.heap.size<A.heap.size;omega)).trans e0;have k1:=(B4.cell (p:=(aW w 1)) (by show w.heap.size<A.heap.size;omega)).trans e1;subst hv4;clear hHeld;refine J8 s ⟨k0,k1⟩ fun hHeld=>?_;clear s K;refine Y0 5 ?_;refine wdn ?_;exact TAIL va (w.heap.size+2) a4 a2u u4 B4 O4
