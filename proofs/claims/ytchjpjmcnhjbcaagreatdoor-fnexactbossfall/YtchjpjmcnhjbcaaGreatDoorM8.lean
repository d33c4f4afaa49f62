import Derived.Test.YtchjpjmcnhjbcaaGreatDoorMA
import Derived.Test.YtchjpjmcnhjbcaaGreatDooreX5
set_option linter.unusedVariables false
set_option maxHeartbeats 8000000
set_option maxRecDepth 100000
namespace Go.Proofs.YtchjpjmcnhjbcaaGreatDoor
open Proofs.Tryz Go.RowKit Go.Maps
variable {E w':World} {W c:Int} {t:BY} {ls:List L4} {B H bP bR bT base n:Nat} {m:M3} {ts:LB} {rs:List R3}
theorem But.a1o {b:Nat} {w:World} (h:w.grownBy w' (some b)):But b w w':=⟨h.os,h.tape,h.output,h.size,fun k c a=>h.block k c (fun e=>a (w_ e))⟩
theorem a0k (w:World) (x y:Value) (t:TypeId):∀ j u,[x,y][j]?=some u->(w.alloc (.cells #[x,y] t)).cell? ((⟨w.heap.size,0,none⟩:Addr).add j)=some u:=by
 intro j u h;rw [Ag,L8];exact Z7 w [x,y] t j u h
theorem dY (c:Int) (s a:BY) (w:World) (hf:XA c s=a) (b:s.size<=1048700):Calls prog 256 #[.agg #[.int .i64 c,.string s]] w fun e w'=>e=.returned (.string a)/\Bw w w':=by
 subst hf;exact ET c s w b
theorem a1w (s:BY) (n:Int) (a:BY) (w:World) (hm:Z5 s n=a) (b:s.size<=1048700):Calls prog 151 #[.string s,.int .i64 n] w fun e w'=>e=.returned (.string a)/\Bw w w':=by
 subst hm;exact aI s n w b
theorem TV (h:vr c t.data.toList=true):t.size<=300:=by
 rcases Q7 300 t.data.toList.length with h1 | h1
 · rw [lF h1] at h;cases h
 · simpa using h1
theorem Zo (c:Int) (t:BY):(XA c t).size<=t.size+2:=by
 have e:t.data.toList.length=t.size:=wu;unfold XA;rw [I5];unfold O8;split
 · simp only [o_];omega
 · simp only [Ee];omega
theorem VY (h:Uf ls):∀ r∈n_ ls,vr r.1 r.2.data.toList=true:=by
 have h2:∀ x∈ls,Rh x:=fun x hx=>by
  obtain ⟨i,b,e⟩:=Zd hx;have:=h.2 i b
  rwa [show ls.getD i E_=x by simp [List.getD,Z8 b,e]] at this
 clear h
 induction ls with
 | nil=>intro r hr;cases hr
 | cons x q ih=>
  intro r hr;have a:=ih (fun y c=>h2 y (Rf _ c));unfold n_ at hr
  cases hx:x.has with
  | true=>rw [hx] at hr;exact a r hr
  | false=>
   rw [hx] at hr;rcases Jd.1 hr with rfl | hr
   · rcases (h2 x (Zp ..)).2 with ⟨k,_⟩ | ⟨_,k⟩
     · rw [hx] at k;cases k
     · exact k
   · exact a r hr
theorem UW {k:Nat} (h:k<(n_ ls).length+1):(Jl ls c t).take (k+1)=(Jl ls c t).take k++[XA ((n_ ls++[(c,t)]).getD k (0,ByteArray.empty)).1 ((n_ ls++[(c,t)]).getD k (0,ByteArray.empty)).2]:=by
 have b:k<(Jl ls c t).length:=by simp [Jl];omega
 rw [Sr,Z8 b];have a:k<(n_ ls++[(c,t)]).length:=U7;simp only [Jl,iD,Option.toList_some];rw [show (n_ ls++[(c,t)]).getD k (0,ByteArray.empty)=(n_ ls++[(c,t)])[k] by simp only [List.getD,Z8 a,qf]]
theorem YN {c:OA} {j:Nat} {l:List (Int×ByteArray)} (h:E.ownsRow base 103 2 (.slice c n j) l.length (wB l)) (e:l≠[]):∃ g,c=some ⟨g,0,none⟩/\(g<E.heap.size/\base<=g)/\∀ k,k<l.length->E.cell? ⟨g,k*2,none⟩=some (.int .i64 (l.getD k (0,ByteArray.empty)).1)/\E.cell? ⟨g,k*2+1,none⟩=some (.string (l.getD k (0,ByteArray.empty)).2):=by
 have b:=h;have d:∀ (l:List (Int×ByteArray)) (k:Nat),k<l.length->(wB l)[k*2]?=some (vI (l.getD k (0,ByteArray.empty)).1)/\(wB l)[k*2+1]?=some (vS (l.getD k (0,ByteArray.empty)).2):=by
  intro l
  induction l with
  | nil=>intro k a;exact absurd a (J8 _)
  | cons x r ih=>
   intro k a
   cases k with
   | zero=>exact ⟨rfl,rfl⟩
   | succ k=>
    have:=ih k (by simpa using a);have e1:(k+1)*2=k*2+1+1:=O0;rw [e1];exact this
 rcases h.2 with ⟨hv,h0⟩ | ⟨g,cap,cur,hv,i,f,_⟩
 · exact absurd (Va.1 h0) e
 · simp only [Vq] at hv;obtain ⟨rfl,rfl,rfl⟩:=hv;refine ⟨g,rfl,⟨(r_.1 f).1,i⟩,fun k a=>?_⟩;rw [b.cellAt (k*2) O0,b.cellAt (k*2+1) O0];exact d l k a
def a1T (W:Int) (ts:LB) (fs:LB) (w w':World) (e:Ending):Prop:=
 (∃ bF f ts',e=.returned (.tuple #[.map (some bF),.bool true])/\w.heap.size<=bF/\w'.ownsMap prog 9 Ja bF f.length (mapD f)/\Fr W (ts.map (gT W)) f ts'/\Y7 W fs (ts,true)=(ts',true))\/
 (e=.returned (.tuple #[.map none,.bool false])/\(Y7 W fs (ts,true)).2=false)
theorem cl3 {u:World} {t:TypeId} {a b c:Value} (h:Cl u B t [a,b,c]):u.cell? ⟨B,0,none⟩=some a/\u.cell? ⟨B,1,none⟩=some b/\u.cell? ⟨B,2,none⟩=some c:=⟨h.cell 0,h.cell 1,h.cell 2⟩
theorem c212 (B H bT bR bP:Nat) (W:Int) (ts:LB) (rs:List R3) (rv:List Value) (ls:List L4) (c:Int) (t:BY) (a:OA) (cap:Nat) (w:World) (hSh:Sh B H bT bR bP W (ts.map (gT W)) rs rv w) (hW:1<=W/\W<=8) (hA:Wh W ts) (hok:Uf ls) (hv:vr c t.data.toList=true) (hl:ls.length<=1048576) (hat:o9 w a ls):
 Calls prog 212 #[.pointer (some ⟨H,0,none⟩),.slice a ls.length cap,.agg #[.int .i64 c,.string t]] w fun e w'=>a1T W ts (Jl ls c t) w w' e/\Bw w w':=by
 obtain ⟨i0,hi,hz0,hz1,hz2⟩:=info_parts' XJ;obtain ⟨pl,hCC,hR⟩:=hSh;obtain ⟨es,ck,hTw,hTF,hTs,hTD⟩:=hCC.tx;have hbT:bT<w.heap.size:=(r_.1 hTw).1;have HLT:Hid (∀ (u:World) (k:BY),k.size<=maxLen->u.heap[bT]?=some (.map es ck)->(Instr.lookup 209 (.map (some bT)) (vS k) true).run prog u=.ok (.tuple #[(T_ (ts.map (gT W)) k).getD (.agg #[vE,vO,vE]),.bool (T_ (ts.map (gT W)) k).isSome]) u):=fun u k Z hu=>
  fC (n:=(ts.map (gT W)).length) ⟨es,ck,hu,hTF,hTs,hTD⟩ underlying209 Y2 Z
 have HVR:Hid (∀ k,k<(n_ ls++[(c,t)]).length->vr ((n_ ls++[(c,t)]).getD k (0,ByteArray.empty)).1 ((n_ ls++[(c,t)]).getD k (0,ByteArray.empty)).2.data.toList=true):=fun k Z=>by
  have e:(n_ ls++[(c,t)]).getD k (0,ByteArray.empty)=(n_ ls++[(c,t)])[k]:=by simp only [List.getD,Z8 Z,qf]
  rw [e];rcases Yg.1 (Bj Z) with h | h
  · exact VY hok _ h
  · rw [Dv.1 h];exact hv
 have HAS:=U0 hA;have HWD:=U0 hW;have a4M:=hCC.lt;have hll:=hok.1;have hml:=Wx ls;have hmm:=@run_makeMap prog;have HM1:Hid ((n_ ls).length+1<=maxLen):=by show _<=_;unfold maxLen;omega
 have HM2:Hid (((n_ ls).length+1)*24<=140737488355328):=by show _<=_;omega
 have s0:(w.alloc (.cells #[vI c,vS t] 103)).heap.size=w.heap.size+1:=X4;have s1:((w.alloc (.cells #[vI c,vS t] 103)).alloc (.map #[] 0)).heap.size=w.heap.size+2:=X4;have BU:Bw w ((w.alloc (.cells #[vI c,vS t] 103)).alloc (.map #[] 0)):=P6.alloc X4 _;have HLK:=U0 (l7 hat BU);have M0:=World.ownsMap_made (w.alloc (.cells #[vI c,vS t] 103)) prog 9 Ja;rw [s0] at M0;have MU:Hid (((w.alloc (.cells #[vI c,vS t] 103)).alloc (.map #[] 0)).ownsMap prog 9 Ja (w.heap.size+1) ([]:List (ByteArray×Value)).length (mapD [])):=M0;have e0:((w.alloc (.cells #[vI c,vS t] 103)).alloc (.map #[] 0)).cell? (aW w 0)=some (vI c):=by simp [go_sem]
 have e1:((w.alloc (.cells #[vI c,vS t] 103)).alloc (.map #[] 0)).cell? (aW w 1)=some (vS t):=by simp [go_sem]
 clear hat M0 hA hW hok hv hTF hTs hTD;go_enter func212,ntmps212
 go_wp2_with fail
 rename_i K0 hK0;generalize ((w.alloc (.cells #[vI c,vS t] 103)).alloc (.map #[] 0))=x at*;have TAIL:∀ (va:Value) (q:Nat) (N:OA) (L:Nat) (E:World),Bw x E->Hid (E.ownsRow x.heap.size 103 2 (vL N ((n_ ls).length+1) L) ((n_ ls).length+1) (wB (n_ ls)++[vI c,vS t]))->K0 { tmps:=#[.pointer (some (aA H 0)),vL a ls.length cap,.agg #[vI c,vS t],undef,undef,.pointer (some (aW w 0)),.map none,.bool false,.map (some (w.heap.size+1)),undef,undef,undef,undef,undef,undef,.map (some (w.heap.size+1)),vL a ls.length cap,va,.agg #[vI c,vS t],vL (some (aA q 0)) 1 1,vL N ((n_ ls).length+1) L,vI ((n_ ls).length+1:Nat),vO,undef,undef,undef,undef,undef,undef,undef,undef,undef,undef,undef,undef,undef,undef,undef,undef,undef,undef,undef,undef,undef,undef,undef,undef,undef,undef,undef,undef,undef,undef,undef,undef,undef,undef,undef,undef,undef,undef,undef,undef,undef,undef,undef,undef],defers:=[] } E:=by
  intro va q N L E hE I;have hEs:=hE.size;obtain ⟨g,rfl,hgE,hgc⟩:=YN (l:=(n_ ls++[(c,t)])) (by rw [YB];simpa using I.out) X4;have HGC:=U0 hgc;have BWE:Bw w E:=BU.trans (hE.mono O0);have CE:=hCC.below BWE;have hE0:=CE.blk 0 _ rfl;have hE1:=CE.blk 1 _ rfl;have hTE:=(BWE.block bT hbT).trans hTw;have ME:=U0 (Qc MU.out hE O0);have hHZ:H<w.heap.size:=a4M;have hgN:g≠w.heap.size+1:=O0;clear hgc I CE;refine hK0 _ _ ?_;clear hK0
  go_wp2_with fail
  go_loopw [22] (fun i wr=>∃ (k:Nat) (f:List (ByteArray×Value)) (tk:List ByteArray),k<=(n_ ls).length+1/\i=.int .i64 k/\Hid (wr.ownsMap prog 9 Ja (w.heap.size+1) f.length (mapD f))/\Hid (Fr W (ts.map (gT W)) f tk)/\Hid (Y7 W ((Jl ls c t).take k) (ts,true)=(tk,true))/\f.length<=k/\But (w.heap.size+1) E wr) (fun i _=>(n_ ls).length+1 - (Go.RowKit.intOf i).toNat)
  case atStart=>exact ⟨0,[],ts,J4 _,rfl,ME,Fr.start HAS.out,rfl,v_ _,But.refl _ _⟩
  case round=>
   obtain ⟨k,f,tk,Z,rfl,HMr,HFr,HPu,hfk,BTr⟩:=hrel;have szr:=BTr.size;by_cases hlt:k<(n_ ls).length+1
   · have gk:=HGC.out k (by simpa using hlt);have g0:=(BTr.cell (p:=(aA g (k*2))) hgE.1 hgN).trans gk.1;have g1:=(BTr.cell (p:=(aA g (k*2+1))) hgE.1 hgN).trans gk.2;have HTK:=U0 (UW (c:=c) (t:=t) hlt);have hvr:=HVR.out k (by simpa using hlt);generalize ((n_ ls++[(c,t)])).getD k (0,ByteArray.empty)=r at*;clear gk;obtain ⟨d,hfm⟩:∃ d,XA r.1 r.2=d:=⟨_,rfl⟩;have HFM:=U0 hfm;have HVF:Hid (hV d=.agg #[vS d,vI r.1,vS r.2]):=hfm▸a0z hvr;have hr3:=TV hvr;have hr7:r.2.size<=1048700:=O0;have a5L:d.size<=1048700:=by rw [<- hfm];have:=Zo r.1 r.2;omega
     rw [hfm] at HTK;obtain ⟨A,hsm⟩:∃ A,Z5 d W=A:=⟨_,rfl⟩;have HSM:=U0 hsm;have HSZ:Hid (A.size<=maxLen):=by show _<=_;rw [<- hsm,Lp HWD.out];have:=HWD.out;unfold maxLen;omega
     clear hfm hsm;have BX0:Bw wr (wr.alloc (.cells #[vI r.1,vS r.2] 103)):=P6;have C0:=U0 (Y4 wr [vI r.1,vS r.2] 103);have hx:wr.heap.size<(wr.alloc (.cells #[vI r.1,vS r.2] 103)).heap.size:=X4
     go_wp2_with fail
     generalize wr.alloc (.cells #[vI r.1,vS r.2] 103)=x0 at*;clear g0 g1;have J:Hid (∀ u,Bw x0 u->u.cell? (aW wr 0)=some (vI r.1)/\u.cell? (aW wr 1)=some (vS r.2)):=fun u hu=>⟨(hu.cell hx).trans (C0.out.cell 0),(hu.cell hx).trans (C0.out.cell 1)⟩
     go_cut [11] from 23 to 29 (fun s wx=>∃ B,s=.pointer (some (aA B 0))/\x0.heap.size<=B/\Hid (Cl wx B 217 [vS d,vI r.1,vS r.2])/\Hid (Bw x0 wx))
     case first=>
      have m:Bw x0 x0.drew:=(Z4 _ _).drew;refine wp_region_held_drew (S:=fun u=>u.cell? (aW wr 0)=some (vI r.1)/\u.cell? (aW wr 1)=some (vS r.2)) Y2 (J.out _ m) fun hH=>?_;generalize x0.drew=y at*;refine Y0 0 ?_;refine Y0 2 ?_;refine wpAnyH_ready (rs:=[1,4]) Y2 X4 ?_;refine AllReadyH.cons (o:=⟨some 27,.call ⟨.value (.func 256),#[.tmp 26],#[103]⟩,9,_,_,none⟩) rfl (fun K b=>?_) (AllReadyH.cons (o:=⟨some 11,.alloc 217,0,_,_,none⟩) rfl (fun K b=>?_) AllReadyH.nil)
      · go_simp;refine (dY r.1 r.2 d _ HFM.out hr7).mono ?_;rintro e u0 ⟨rfl,U⟩
        replace m:=X5 m U
        clear U;go_simp;refine E8 b (J.out _ m) fun hH=>?_;clear b K;refine Y0 3 ?_;refine rq 4 fun K b=>?_;go_simp;have X:=U0 (Y4 u0 [vE,vO,vE] 217);have hA:=m.size
        replace m:=X5 m (P6 (w:=u0) (o:=.cells #[vE,vO,vE] 217))
        refine E8 b (J.out _ m) fun hH=>?_;clear b K;generalize u0.alloc (.cells #[vE,vO,vE] 217)=ya at*;refine rq 5 fun K b=>?_;refine t_ rfl 217 _ _ rfl (B:=u0.heap.size) (j:=0) rfl (vs:=[vS d,vI r.1,vS r.2]) rfl X.out H8 (o8 rfl) Y2 ?_;intro z cz oz
        replace m:=m.trans (oz.below hA)
        have CZ:=U0 cz;refine E8 b (J.out _ m) fun hH=>?_;clear b K;refine wdn ?_
        go_wp2_with fail
        go_meet
        case rel=>exact ⟨_,rfl,hA,CZ,m⟩
      · go_simp;have X:=U0 (Y4 y [vE,vO,vE] 217);have hA:=m.size
        replace m:=X5 m (P6 (w:=y) (o:=.cells #[vE,vO,vE] 217))
        refine E8 b (J.out _ m) fun hH=>?_;clear b K;generalize y.alloc (.cells #[vE,vO,vE] 217)=ya at*;refine rq 1 fun K b=>?_;go_simp;refine (dY r.1 r.2 d _ HFM.out hr7).mono ?_;rintro e u0 ⟨rfl,U⟩
        replace m:=X5 m U
        replace X:=U0 (X.out.below U X.out.lt)
        clear U;go_simp;refine E8 b (J.out _ m) fun hH=>?_;clear b K;refine Y0 3 ?_;refine rq 5 fun K b=>?_;refine t_ rfl 217 _ _ rfl (B:=y.heap.size) (j:=0) rfl (vs:=[vS d,vI r.1,vS r.2]) rfl X.out H8 (o8 rfl) Y2 ?_;intro z cz oz
        replace m:=m.trans (oz.below hA)
        have CZ:=U0 cz;refine E8 b (J.out _ m) fun hH=>?_;clear b K;refine wdn ?_
        go_wp2_with fail
        go_meet
        case rel=>exact ⟨_,rfl,hA,CZ,m⟩
     obtain ⟨B,rfl,hB,CB,BX⟩:=hcut;clear J;have BT3:But (w.heap.size+1) E wc:=BTr.trans (But.of_below (BX0.trans (BX.out.mono (Qo hx))));have M3:=U0 (Qc HMr.out (BX0.trans (BX.out.mono (Qo hx))) O0);have h0:=(BT3.cell (p:=(aA H 0)) (show H<E.heap.size by omega) (show H≠w.heap.size+1 by omega)).trans hE0;have a0:=CB.out.cell 0;have hBz:=BX.out.size;clear BX C0
     go_wp2_with fail
     refine wp_region_held_drew (S:=(fun u=>u.cell? (aA B 0)=some (vS d)/\u.cell? (aA H 0)=some (vI W))) Y2 ⟨a0,h0⟩ fun hHeld=>?_;refine Y0 0 ?_;refine Y0 1 ?_;refine Y0 2 ?_;refine Y0 3 ?_;refine Y0 4 ?_;refine Y0 5 ?_;refine rq 6 fun K b=>?_;go_simp;refine (a1w d W A _ HSM.out a5L).mono ?_;rintro e C ⟨rfl,hb4⟩
     go_wp2_with fail
     have b4:Bw wc C:=((Z4 _ _).drew).trans hb4;have s4:=b4.size;have hB4:=CB.out.lt;have V:=U0 (CB.out.below b4 hB4);have O:=BT3.trans (But.of_below b4);have M4:=U0 (Qc M3.out b4 O0);obtain ⟨a1,a2,a3⟩:=cl3 V.out;have h1:=(O.cell (p:=(aA H 0)) (show H<E.heap.size by omega) (show H≠w.heap.size+1 by omega)).trans hE0;have h2:=(O.cell (p:=(aA H 1)) (show H<E.heap.size by omega) (show H≠w.heap.size+1 by omega)).trans hE1;have hT4:=(O.block bT O0 O0).trans hTE;clear hHeld hb4;refine E8 b ⟨a1,h1⟩ fun hHeld=>?_;clear b K;refine Y0 7 ?_;refine wdn ?_;clear hHeld M3 BT3 a0 h0;have a5e:Bw w C:=BWE.trans (O.below O0 O0);have szZ:w.heap.size<=C.heap.size:=O0;have MET:∀ v,(T_ (ts.map (gT W)) A=some v\/T_ f A=some v)->∃ y,v=hV y/\((y=d/\Hid (Y7 W ((Jl ls c t).take (k+1)) (ts,true)=(tk,true)))\/(¬ y.toList=d.toList/\Hid ((Y7 W (Jl ls c t) (ts,true)).2=false))):=fun v hv=>by
      obtain ⟨y,hvy,hput⟩:=HFr.out.met (W:=W) (t:=d) (by rw [HSM.out];exact hv);have h:Y7 W ((Jl ls c t).take (k+1)) (ts,true)=(tk,decide (y=d)):=by
       rw [HTK.out,qm,HPu.out];show ((Eb W d tk).1,true&&(Eb W d tk).2)=_;rw [hput];rfl
      refine ⟨y,hvy,?_⟩;by_cases hy:y=d
      · rw [C_ hy] at h;exact .inl ⟨hy,h⟩
      · rw [S9 hy] at h;refine .inr ⟨fun e=>hy ((Un y d).1 e),?_⟩;show (Y7 _ _ _).2=false;rw [<- Hl (k+1) (Jl ls c t),qm,h];exact LM _ _ _
     have Q:=HLT.out C A HSZ.out hT4
     cases hqm:T_ (ts.map (gT W)) A with
     | some v=>
      rw [hqm] at Q;simp only [qf,Option.isSome_some] at Q;obtain ⟨y,rfl,⟨rfl,HP⟩ | ⟨hne,HN⟩⟩:=MET v (.inl hqm)
      · rw [HVF.out] at Q;have m:Bw C (C.alloc (.cells #[vS y,vI r.1,vS r.2] 217)):=P6;obtain ⟨n0,n1,n2⟩:=cl3 (V.out.below m O0);go_wp2;go_roundw
        case rel=>exact ⟨k+1,f,tk,O0,by go_num,U0 (Qc M4.out m O0),HFr,HP,O0,O.trans (But.of_below m)⟩
        case measure=>simp [Go.RowKit.intOf];omega
      · unfold hV at Q;have m:Bw C (C.alloc (.cells #[vS y,vI (hC y),vS (hT y)] 217)):=P6;obtain ⟨n0,n1,n2⟩:=cl3 (V.out.below m O0);go_wp2;go_ret2;exact ⟨.inr ⟨rfl,HN.out⟩,a5e.trans (m.mono O0)⟩
     | none=>
      rw [hqm] at Q;simp only [Option.getD_none,Option.isSome_none] at Q;have b5:Bw C (C.alloc (.cells #[vE,vO,vE] 217)):=P6;obtain ⟨m0,m1,m2⟩:=cl3 (V.out.below b5 O0);have M5:=U0 (Qc M4.out b5 O0);have R:=fC (k:=A) (z:=.agg #[vE,vO,vE]) M5.out underlying209 Y2 HSZ.out
      cases hqf:T_ f A with
      | some v=>
       rw [hqf] at R;simp only [qf,Option.isSome_some] at R;obtain ⟨y,rfl,⟨rfl,HP⟩ | ⟨hne,HN⟩⟩:=MET v (.inr hqf)
       · rw [HVF.out] at R;have m:Bw C (C.alloc (.cells #[vS y,vI r.1,vS r.2] 217)):=P6;obtain ⟨n0,n1,n2⟩:=cl3 (V.out.below m O0);go_wp2;go_roundw
         case rel=>exact ⟨k+1,f,tk,O0,by go_num,U0 (Qc M4.out m O0),HFr,HP,O0,O.trans (But.of_below m)⟩
         case measure=>simp [Go.RowKit.intOf];omega
       · unfold hV at R;have m:Bw C (C.alloc (.cells #[vS y,vI (hC y),vS (hT y)] 217)):=P6;obtain ⟨n0,n1,n2⟩:=cl3 (V.out.below m O0);go_wp2;go_ret2;exact ⟨.inr ⟨rfl,HN.out⟩,a5e.trans (m.mono O0)⟩
      | none=>
       rw [hqf] at R;simp only [Option.getD_none,Option.isSome_none] at R;have HFL:Hid (f.length<maxLen):=by show _<_;unfold maxLen;omega
       have HV2:Hid (Ja (.agg #[vS d,vI r.1,vS r.2])=some (.held (hV d),[])):=by show Ja _=_;rw [HVF.out];rfl
       have HAD:=U0 (HFr.out.add (t:=d) (by rw [HSM.out];exact hqm) (by rw [HSM.out];exact hqf));have HP3:Hid (Y7 W ((Jl ls c t).take (k+1)) (ts,true)=(Xl W d tk,true)):=by
        show Y7 _ _ _=_;rw [HTK.out,qm,HPu.out];show ((Eb W d tk).1,true&&(Eb W d tk).2)=_;rw [HAD.out.1];rfl
       have HG:Hid (gT W d=(A,hV d)):=by show (Z5 d W,hV d)=_;rw [HSM.out]
       go_wp2_with (at_mapUpdate;refine wpList_mapUpdate_own _ rfl _ _ _ 209 rfl 9 217 Dw underlying209 Ja (w.heap.size+1) f.length (mapD f) rfl M5.out HFL.out _ _ (kS A) rfl rfl (keyS HSZ.out) (.held (hV d)) [] HV2.out ?_;intro x6 P hg6)
       rw [KA _ hqf] at P
       replace P:=aj P
       rw [Zb] at P;have hfl:(yg (A,hV d) f).length=f.length+1:=by rw [(Yc _ _).length_eq];rfl
       have a5M:Hid (Fr W (ts.map (gT W)) (yg (A,hV d) f) (Xl W d tk)):=by have h:=HAD.out.2;rw [HG.out] at h;exact h
       have HM6:=U0 P;have BT6:=(O.trans (But.of_below b5)).trans (But.a1o hg6);clear P hg6;go_roundw
       case rel=>exact ⟨k+1,yg (A,hV d) f,Xl W d tk,O0,by go_num,HM6,a5M,HP3,O0,BT6⟩
       case measure=>simp [Go.RowKit.intOf];omega
   · obtain rfl:k=(n_ ls).length+1:=O0;have HPF:Hid (Y7 W (Jl ls c t) (ts,true)=(tk,true)):=by have h:=HPu.out;rw [l_ (by simp [Jl])] at h;exact h
     go_wp2;go_ret2;exact ⟨.inl ⟨w.heap.size+1,f,tk,rfl,O0,HMr.out,HFr.out,HPF.out⟩,BWE.trans (BTr.below O0 O0)⟩
 refine wp_region_held_drew (S:=(fun u=>u.cell? (aW w 0)=some (vI c)/\u.cell? (aW w 1)=some (vS t))) Y2 ?_ fun hHeld=>?_
 · exact ⟨e0,e1⟩
 refine Y0 0 ?_;refine Y0 2 ?_;refine Y0 6 ?_;refine wpAnyH_ready (rs:=[1,3]) Y2 X4 ?_;refine AllReadyH.cons (o:=⟨some 17,.call ⟨.value (.func 255),#[.tmp 16],#[102]⟩,347,_,_,none⟩) rfl (fun K b=>?_) (AllReadyH.cons (o:=⟨some 19,.buildSlice 347 1 #[(0,.tmp 18)],347,_,_,none⟩) rfl (fun K b=>?_) AllReadyH.nil)
 · go_simp;refine (a1H ls a cap _ hl (l7 HLK.out ((Z4 _ _).drew))).mono ?_;rintro e u2 ⟨⟨va,rfl,hva⟩,a5N⟩
   go_wp2_with fail
   have B2:Bw x u2:=((Z4 _ _).drew).trans a5N;have s2:=B2.size;have hdr:x.drew.heap.size<=x.heap.size/\x.heap.size<=x.drew.heap.size:=⟨v_ _,v_ _⟩;have p0:=(B2.cell (p:=(aW w 0)) (by show w.heap.size<x.heap.size;omega)).trans e0;have p1:=(B2.cell (p:=(aW w 1)) (by show w.heap.size<x.heap.size;omega)).trans e1;clear hHeld;refine E8 b ⟨p0,p1⟩ fun hHeld=>?_;clear b K;refine rq 3 fun K b=>?_;go_simp;have D:Bw u2 (u2.alloc (.cells #[vI c,vS t] 103)):=P6;have cA:=a0k u2 (vI c) (vS t) 103;have sA:(u2.alloc (.cells #[vI c,vS t] 103)).heap.size=u2.heap.size+1:=X4;have q0:=(D.cell (p:=(aW w 0)) (by show w.heap.size<u2.heap.size;omega)).trans p0;have q1:=(D.cell (p:=(aW w 1)) (by show w.heap.size<u2.heap.size;omega)).trans p1;clear hHeld;refine E8 b ⟨q0,q1⟩ fun hHeld=>?_;clear b K;have Y:=U0 (own_below hva D);have B3:=B2.trans (D.mono s2);generalize (u2.alloc (.cells #[vI c,vS t] 103))=u3 at*;refine rq 4 fun K b=>?_;refine Sj rfl (.tmp 17) (.tmp 19) 347 rfl _ 103 i0 (.agg #[vO,vE]) 2 24 underlying347 hi hz0 hz1 hz2 rfl o6 va _ _ rfl Y.out (aW u2 0) 1 1 [vI c,vS t] rfl rfl cA (by simp [Value.oneCell']) HM1.out HM2.out O0 ?_;intro v4 u4 ho4 hg4 hl4;have F:Bw x u4:=B3.trans (P9 hg4 (fun j e=>G7 O0 (J6 Y.out e)) O0);have s4:=F.size;have I:=U0 (H9 ho4 (base':=x.heap.size) O0);obtain ⟨N,L,hv4⟩:=I9 I.out;have k0:=(F.cell (p:=(aW w 0)) (by show w.heap.size<x.heap.size;omega)).trans e0;have k1:=(F.cell (p:=(aW w 1)) (by show w.heap.size<x.heap.size;omega)).trans e1;subst hv4;clear hHeld;refine E8 b ⟨k0,k1⟩ fun hHeld=>?_;clear b K;refine Y0 5 ?_;refine wdn ?_;exact TAIL va u2.heap.size N L u4 F I
 · go_simp;have D:Bw x ((x.alloc (.cells #[vI c,vS t] 103)).drew):=P6.drew;have cA0:=a0k x (vI c) (vS t) 103;have sA:((x.alloc (.cells #[vI c,vS t] 103)).drew).heap.size=x.heap.size+1:=X4;have q0:=(D.cell (p:=(aW w 0)) (by show w.heap.size<x.heap.size;omega)).trans e0;have q1:=(D.cell (p:=(aW w 1)) (by show w.heap.size<x.heap.size;omega)).trans e1;clear hHeld;refine E8 b ⟨q0,q1⟩ fun hHeld=>?_;clear b K;have cA1:∀ j u,[Value.int .i64 c,vS t][j]?=some u->((x.alloc (.cells #[vI c,vS t] 103)).drew).cell? ((aW x 0).add j)=some u:=cA0;generalize ((x.alloc (.cells #[vI c,vS t] 103)).drew)=u2 at*;refine rq 1 fun K b=>?_;go_simp;refine (a1H ls a cap _ hl (l7 HLK.out D)).mono ?_;rintro e u3 ⟨⟨va,rfl,hva⟩,a4D⟩
   go_wp2_with fail
   have s3:=a4D.size;have B3:=D.trans (a4D.mono O0);have q2:=(a4D.cell (p:=(aW w 0)) (by show w.heap.size<u2.heap.size;omega)).trans q0;have q3:=(a4D.cell (p:=(aW w 1)) (by show w.heap.size<u2.heap.size;omega)).trans q1;have cA:∀ j u,[Value.int .i64 c,vS t][j]?=some u->u3.cell? ((aA (w.heap.size+2) 0).add j)=some u:=fun j u h=>by
    rw [<- s1];exact (a4D.cell (by rw [Ag];show x.heap.size<u2.heap.size;omega)).trans (cA1 j u h)
   clear hHeld;refine E8 b ⟨q2,q3⟩ fun hHeld=>?_;clear b K;have Y:=U0 hva;refine rq 4 fun K b=>?_;refine Sj rfl (.tmp 17) (.tmp 19) 347 rfl _ 103 i0 (.agg #[vO,vE]) 2 24 underlying347 hi hz0 hz1 hz2 rfl o6 va _ _ rfl Y.out (aA (w.heap.size+2) 0) 1 1 [vI c,vS t] rfl rfl cA (by simp [Value.oneCell']) HM1.out HM2.out O0 ?_;intro v4 u4 ho4 hg4 hl4;have F:Bw x u4:=B3.trans (P9 hg4 (fun j e=>G7 O0 (J6 Y.out e)) O0);have s4:=F.size;have I:=U0 (H9 ho4 (base':=x.heap.size) O0);obtain ⟨N,L,hv4⟩:=I9 I.out;have k0:=(F.cell (p:=(aW w 0)) (by show w.heap.size<x.heap.size;omega)).trans e0;have k1:=(F.cell (p:=(aW w 1)) (by show w.heap.size<x.heap.size;omega)).trans e1;subst hv4;clear hHeld;refine E8 b ⟨k0,k1⟩ fun hHeld=>?_;clear b K;refine Y0 5 ?_;refine wdn ?_;exact TAIL va (w.heap.size+2) N L u4 F I
open Classical in
noncomputable def a_ (W:Int) (ts:LB) (rs:List R3) (m:M3) (ls:List L4) (c:Int) (t:BY):Int:=
 if ¬ Zf m ls c t then 2 else if (Y7 W (Jl ls c t) (ts,true)).2=false then 3 else
 if 300<(Y7 W (Jl ls c t) (ts,true)).1.length\/150<(Hf rs (qh W m ls c t)).length then 4 else 0
theorem AX {s:BY} {v:Bool} (hv:vr c s.data.toList=v) (w:World) (a:s.size<=1048700):Calls prog 169 #[.agg #[.int .i64 c,.string s]] w fun e w'=>e=.returned (.bool v)/\Bw w w':=hv▸pM c s w a
theorem BG (h:Ze m=true):(d_ m).size<=321:=by
 unfold Ze Y5 at h;simp only [V_,Ud] at h;have e:m.tl.data.toList.length=m.tl.size:=wu;have h1:=h.1.2.1.2;have h2:=h.2;unfold d_;rw [LH,LH];have e1:(⟨#[32]⟩:BY).size=1:=rfl;omega
theorem dS {a:Int} (h:0<=a/\a<=1000000):IntKind.i64.wrap a=a:=by
 exact IntWalk.i64_in a O0
theorem RP (W:Int) (t:BY) (ts:LB):(Xl W t ts).length=ts.length+1:=by
 have h:=U6 List.length (Sz W t ts);rw [Vd,(Yc _ _).length_eq] at h;simpa using h
theorem JR (W:Int) (t:BY) (ts:LB):(Eb W t ts).1.length<=ts.length+1:=by
 unfold Eb;split
 · exact Io _
 · rw [RP];exact v_ _
theorem Iy (W:Int):∀ (a ts:LB) (b:Bool),(Y7 W a (ts,b)).1.length<=ts.length+a.length
 | [],ts,b=>v_ _
 | t::r,ts,b=>by
  have h1:=Iy W r (Eb W t ts).1 (b&&(Eb W t ts).2);have h2:=JR W t ts;have e:Y7 W (t::r) (ts,b)=Y7 W r ((Eb W t ts).1,b&&(Eb W t ts).2):=rfl;rw [e,o_];omega
theorem XZ {d:OA} {m:Nat} (h:E.ownsRow base 205 3 (.slice d n m) ls.length (sF W ls)):R_ E d (ls.map (Vm W))/\(ls.map (Vm W)=[]\/∃ b off,d=some ⟨b,off,none⟩/\∃ cur fr,E.heap[b]?=some (.cells cur 205 fr)):=by
 have c:=h;have i:∀ (l:List L4) (k:Nat),k<l.length->(sF W l)[k*3]?=some (.bool (l.getD k E_).has)/\(sF W l)[k*3+1]?=some (vS (l.getD k E_).nm)/\(sF W l)[k*3+2]?=some (vS (Z5 (zn (l.getD k E_)) W)):=by
  intro l
  induction l with
  | nil=>intro k a;exact absurd a (J8 _)
  | cons x r ih=>
   intro k a
   cases k with
   | zero=>exact ⟨rfl,rfl,rfl⟩
   | succ k=>
    have:=ih k (by simpa using a);have e1:(k+1)*3=k*3+1+1+1:=O0;rw [e1];exact this
 rcases h.2 with ⟨hv,h0⟩ | ⟨g,cap,cur,hv,hg,f,_⟩
 · have e:=Va.1 h0;subst e;exact ⟨.inl rfl,.inl rfl⟩
 · simp only [Vq] at hv;obtain ⟨rfl,rfl,rfl⟩:=hv;refine ⟨.inr ⟨g,0,rfl,(r_.1 f).1,fun k a=>?_⟩,.inr ⟨g,0,rfl,cur,(0,0),f⟩⟩;rw [Vd] at a;have e:(ls.map (Vm W)).getD k Vg=Vm W (ls.getD k E_):=by simp only [List.getD,Yr,Z8 a,xw,qf]
   obtain ⟨e0,e1,j⟩:=i ls k a;rw [e];refine ⟨?_,?_,?_⟩
   · rw [L8,c.cellAt (k*3) O0];exact e0
   · rw [L8,c.cellAt (k*3+1) O0];exact e1
   · rw [L8,c.cellAt (k*3+2) O0];exact j
theorem Fr.vals {l f:List (ByteArray×Value)} (h:Fr W l f ts):∀ p∈f,∃ q,p.2=tZ q:=fun p a=>by
 obtain ⟨y,_,rfl⟩:=Pm.1 (h.perm.mem_iff.2 (QI l a));exact ⟨(y,hC y,hT y),rfl⟩
theorem UG {x:R3} (h:rs.length<=150):150<(Hf rs x).length↔x∉rs/\rs.length=150:=by
 unfold Hf;split
 · rename_i hx;constructor
   · intro h1;omega
   · intro h1;exact absurd hx h1.1
 · rename_i hx;simp only [D9,Si];constructor
   · intro h1;exact ⟨hx,O0⟩
   · intro h1;omega
theorem dL {x:L4} (h:x.tx.size<=1048576):(zn x).size<=1048700:=by
 unfold zn;split
 · split <;> decide
 · have:=Zo x.cd x.tx;unfold XA at this;omega
def qY (B H bT bR bP:Nat) (W:Int) (ts:LB) (rs:List R3) (m:M3) (ls:List L4) (c:Int) (t:BY) (w':World) (e:Ending):Prop:=
 e=.returned (.int .i64 (a_ W ts rs m ls c t))/\(a_ W ts rs m ls c t=0->∃ rv',Sh B H bT bR bP W ((Y7 W (Jl ls c t) (ts,true)).1.map (gT W)) (Hf rs (qh W m ls c t)) rv' w')
theorem SB {n:Int} (h:a_ W ts rs m ls c t=n) (a:n≠0):qY B H bT bR bP W ts rs m ls c t w' (.returned (.int .i64 n)):=⟨by rw [h],fun e=>absurd (h.symm.trans e) a⟩
theorem a0x {a:List Value} (h:a_ W ts rs m ls c t=0) (b:Sh B H bT bR bP W ((Y7 W (Jl ls c t) (ts,true)).1.map (gT W)) (Hf rs (qh W m ls c t)) a w'):qY B H bT bR bP W ts rs m ls c t w' (.returned (.int .i64 0)):=⟨by rw [h],fun _=>⟨a,b⟩⟩
theorem c157 (B H bT bR bP:Nat) (W:Int) (ts:LB) (rs:List R3) (rv:List Value) (m:M3) (ls:List L4) (c:Int) (t:BY) (a:OA) (Q:Nat) (w:World) (hSh:Sh B H bT bR bP W (ts.map (gT W)) rs rv w) (hW:1<=W/\W<=8) (hA:Wh W ts) (htl:ts.length<=300) (hrl:rs.length<=150) (hgs:∀ i,(rs.getD i f_).gs.length<=1048576) (hm:m.le 1048576) (hl:ls.length<=1048576) (hs:∀ i,(ls.getD i E_).le 1048576) (ht:t.size<=1048576) (hat:o9 w a ls):
 Calls prog 157 #[.pointer (some ⟨H,0,none⟩),.agg #[.string m.nm,.string m.tl,.string m.ar],.slice a ls.length Q,.agg #[.int .i64 c,.string t]] w fun e w'=>qY B H bT bR bP W ts rs m ls c t w' e/\Below B w w'/\KF w w':=by
 have v:B<=w.heap.size:=by obtain ⟨pl,h1,_⟩:=hSh;have:=h1.hH;have:=h1.lt;omega
 have BW0:Bw w ((w.alloc (.cells #[vS m.nm,vS m.tl,vS m.ar] 135)).alloc (.cells #[vI c,vS t] 103)):=P6.alloc X4 _;have s0:((w.alloc (.cells #[vS m.nm,vS m.tl,vS m.ar] 135)).alloc (.cells #[vI c,vS t] 103)).heap.size=w.heap.size+2:=X4;have Z:Hid (D5 ((w.alloc (.cells #[vS m.nm,vS m.tl,vS m.ar] 135)).alloc (.cells #[vI c,vS t] 103)) w.heap.size [vS m.nm,vS m.tl,vS m.ar]):=U0 ((Z7 w [vS m.nm,vS m.tl,vS m.ar] 135).below (N:=w.heap.size+1) ((Z4 _ _).alloc X4 _) O0);have BC0:Hid (D5 ((w.alloc (.cells #[vS m.nm,vS m.tl,vS m.ar] 135)).alloc (.cells #[vI c,vS t] 103)) (w.heap.size+1) [vI c,vS t]):=by have h:=Z7 (w.alloc (.cells #[vS m.nm,vS m.tl,vS m.ar] 135)) [vI c,vS t] 103;rw [show (w.alloc (.cells #[vS m.nm,vS m.tl,vS m.ar] 135)).heap.size=w.heap.size+1 by simp] at h;exact h
 have k0:=Z.out 0 _ rfl;have k1:=Z.out 1 _ rfl;have k2:=Z.out 2 _ rfl;have HSH:=U0 hSh;have hkR:m.tl.size<=1048576/\m.ar.size<=1048576:=⟨hm.2.1,hm.2.2⟩;have HM7:Hid (m.le 1048700):=⟨G7 hm.1 O0,G7 hm.2.1 O0,G7 hm.2.2 O0⟩;clear hSh;go_enter func157,ntmps157
 go_wp2_with fail
 generalize ((w.alloc (.cells #[vS m.nm,vS m.tl,vS m.ar] 135)).alloc (.cells #[vI c,vS t] 103))=U1 at*;cases hn:Ze m
 · have d:Hid (a_ W ts rs m ls c t=2):=by show a_ _ _ _ _ _ _ _=2;unfold a_;rw [if_pos (fun h=>by have h1:=h.1;rw [hn] at h1;cases h1)]
   refine (VK hn _ HM7.out).mono ?_;rintro e w1 ⟨rfl,s⟩;go_wp2;go_ret;exact ⟨SB d.out o6,(BW0.trans (s.mono O0)).mono v,Nc (BW0.trans (s.mono O0)) H8⟩
 · refine (VK hn _ HM7.out).mono ?_;rintro e w1 ⟨rfl,s⟩;have s1:=s.size;have BK1:=U0 (Z.out.below s O0);have BC1:=U0 (BC0.out.below s O0);have BW1:=BW0.trans (s.mono O0);clear s k0 k1 k2
   go_wp2_with fail
   refine (c168 a Q ls _ hl hs (l7 hat BW1)).mono ?_;rintro e w2 ⟨⟨r,rfl,hr⟩,K⟩;have s2:=K.size;have BK2:=U0 (BK1.out.below K O0);have BC2:=U0 (BC1.out.below K O0);have Y:=BW1.trans (K.mono O0);have j0:=BC2.out 0 _ rfl;have j1:=BC2.out 1 _ rfl;clear K;cases r
   · have d:Hid (a_ W ts rs m ls c t=2):=by show a_ _ _ _ _ _ _ _=2;unfold a_;rw [if_pos (fun h=>absurd (hr.2 h.2.1) o6)]
     clear hr;go_wp2;go_ret;exact ⟨SB d.out o6,Y.mono v,Nc Y H8⟩
   · have hlo:=hr.1 rfl;clear hr
     go_wp2_with fail
     cases hv:vr c t.data.toList
     · have d:Hid (a_ W ts rs m ls c t=2):=by show a_ _ _ _ _ _ _ _=2;unfold a_;rw [if_pos (fun h=>by have h1:=h.2.2;rw [hv] at h1;cases h1)]
       refine (AX hv _ O0).mono ?_;rintro e w3 ⟨rfl,z⟩;have E:=Y.trans (z.mono O0);go_wp2;go_ret;exact ⟨SB d.out o6,E.mono v,Nc E H8⟩
     · refine (AX hv _ O0).mono ?_;rintro e w3 ⟨rfl,z⟩;have s3:=z.size;have BK3:=U0 (BK2.out.below z O0);have BC3:=U0 (BC2.out.below z O0);have E:=Y.trans (z.mono O0);have HRK:Hid (Zf m ls c t):=⟨hn,hlo,hv⟩;have i0:=BC3.out 0 _ rfl;have i1:=BC3.out 1 _ rfl;have HL3:=U0 (l7 hat E);have HS3:=U0 (HSH.out.below E);have h63:=c212 B H bT bR bP W ts rs rv ls c t a Q w3 HS3.out hW hA hlo hv hl HL3.out;clear z j0 j1
       go_wp2_with fail
       refine h63.mono ?_;rintro e L ⟨hfr,C⟩;clear h63;have s4:=C.size;have BK4:=U0 (BK3.out.below C O0);have BC4:=U0 (BC3.out.below C O0);have BW4:=E.trans (C.mono O0);rcases hfr with ⟨bF,f,O,rfl,hbF,hmF,hFr,hpu⟩ | ⟨rfl,hno⟩
       · have U:=U0 hFr;have R:=U0 hpu;have HMF:=U0 hmF;have HS4:=U0 (HS3.out.below C);have HL4:=U0 (l7 HL3.out C);have q0:=BC4.out 0 _ rfl;have q1:=BC4.out 1 _ rfl;have p0:=BK4.out 0 _ rfl;have p1:=BK4.out 1 _ rfl;have p2:=BK4.out 2 _ rfl;have hfl:f.length+ts.length=O.length:=by have:=hFr.done.2;rw [Vd] at this;omega
         have hH4:H<L.heap.size/\L.cell? (aA H 0)=some (vI W):=by obtain ⟨pl,h1,_⟩:=HS4.out;exact ⟨h1.lt,h1.blk 0 _ rfl⟩
         have h64:=c213 m ls c t W H a Q L ⟨Nat.le_trans hm.1 O0,Nat.le_trans hm.2.1 O0,Nat.le_trans hm.2.2 O0⟩ O0 (by have:=Zo c t;unfold XA at this;omega) hl (fun i=>⟨Nat.le_trans (hs i).2 O0,dL (hs i).2⟩) HL4.out hH4.1 hH4.2;clear hFr hpu hmF i0 i1
         go_wp2_with fail
         refine h64.mono ?_;rintro e p ⟨⟨v5,rfl,hv5⟩,hb5⟩;obtain ⟨l,g,rfl⟩:=I9 hv5;clear h64;have s5:=hb5.size;have a4S:Bw L (p.alloc (.cells #[vS (d_ m),vL l ls.length g,vS (Z5 (J3 (O8 c t.data.toList)) W)] 145)):=hb5.alloc s5 _;have sX:(p.alloc (.cells #[vS (d_ m),vL l ls.length g,vS (Z5 (J3 (O8 c t.data.toList)) W)] 145)).heap.size=p.heap.size+1:=X4;have BWx:=BW4.trans (a4S.mono O0);have HSx:=U0 (HS4.out.below a4S);have HMx:=U0 (Qc HMF.out a4S HMF.out.lt);have V:Hid (D5 (p.alloc (.cells #[vS (d_ m),vL l ls.length g,vS (Z5 (J3 (O8 c t.data.toList)) W)] 145)) p.heap.size [vS (d_ m),vL l ls.length g,vS (Z5 (J3 (O8 c t.data.toList)) W)]):=U0 (Z7 p [vS (d_ m),vL l ls.length g,vS (Z5 (J3 (O8 c t.data.toList)) W)] 145);have hrow:=own_below hv5 ((Z4 _ _).alloc H8 (.cells #[vS (d_ m),vL l ls.length g,vS (Z5 (J3 (O8 c t.data.toList)) W)] 145));have GR:=U0 (XZ hrow);obtain ⟨x,hx⟩:∃ x,qh W m ls c t=x:=⟨_,rfl⟩;have HX:=U0 hx;have hxk:x.key=d_ m:=by rw [<- hx];rfl
         have hxo:x.out=Z5 (J3 (O8 c t.data.toList)) W:=by rw [<- hx];rfl
         have P:x.gs=ls.map (Vm W):=by rw [<- hx];rfl
         have hxl:x.gs.length=ls.length:=by rw [P];simp
         have hxs:x.key.size<=321:=by rw [hxk];exact BG hn
         have HRV:Hid (jB B (p.alloc (.cells #[vS (d_ m),vL l ls.length g,vS (Z5 (J3 (O8 c t.data.toList)) W)] 145)) (.agg #[vS x.key,vL l x.gs.length g,vS x.out]) x):=⟨l,g,rfl,by rw [P];exact GR.out.1,by
          rw [P];rcases GR.out.2 with h | ⟨b,off,h1,h2⟩
          · exact .inl h
          · exact .inr ⟨b,off,h1,.inr h2⟩⟩
         have h65:=a3l B H bT bR bP W _ rs rv x l g (p.alloc (.cells #[vS (d_ m),vL l ls.length g,vS (Z5 (J3 (O8 c t.data.toList)) W)] 145)) HSx.out (by rw [P];exact GR.out.1) O0 O0 O0 hgs;rw [hxk,hxl,hxo] at h65;have z0:=V.out 0 _ rfl;have z1:=V.out 1 _ rfl;have z2:=V.out 2 _ rfl;clear hx
         go_wp2_with fail
         refine h65.mono ?_;rintro e w6 ⟨⟨bt,rfl,J⟩,A⟩;clear h65 z0 z1 z2;generalize (p.alloc (.cells #[vS (d_ m),vL l ls.length g,vS (Z5 (J3 (O8 c t.data.toList)) W)] 145))=x5 at*;have s6:=A.size;have y:=BWx.trans (A.mono O0);have HF6:=U0 (Qc HMx.out A HMx.out.lt);have X:=U0 (V.out.below A O0);have RV6:=U0 (HRV.out.kept (Bf A) (fun _ e=>by cases e));obtain ⟨pl,u,hR6⟩:=HSx.out.below A;have q:=U0 u;have a5f:=U0 hR6;have HT6:=U0 u.tx;have HR6:=U0 u.rc;have f1:=u.blk 1 _ rfl;have f2:=u.blk 2 _ rfl;have o0:=X.out 0 _ rfl;have o1:=X.out 1 _ rfl;have o2:=X.out 2 _ rfl;have a5O:bT<w.heap.size:=by obtain ⟨pl',h1,_⟩:=HSH.out;exact h1.tx.lt
         have a4T:=U0 hR6.len;have a6x:rv.length<=150:=by rw [a4T.out];exact hrl
         have HDN:=U0 U.out.done.1;have hfn:f.length<=16:=by
          have h1:=Iy W (Jl ls c t) ts true;rw [R.out] at h1;have h2:(Jl ls c t).length=(n_ ls).length+1:=by simp [Jl]
          have h3:=Wx ls;have h4:=hlo.1;simp only at h1;omega
         have D:=a2v bT bF _ _ _ f w6 HT6.out HF6.out U.out.vals O0 (by rw [Zb,List.length_map];unfold maxLen;omega);have S:Hid (((300<O.length\/(x∉rs/\rs.length=150))->a_ W ts rs m ls c t=4)/\(¬ (300<O.length\/(x∉rs/\rs.length=150))->a_ W ts rs m ls c t=0)):=by
          show _/\_;have e:a_ W ts rs m ls c t=if 300<O.length\/150<(Hf rs x).length then 4 else 0:=by
           unfold a_;rw [I7 (fun h=>h HRK.out),R.out,I7 X4,HX.out]
          rw [e];exact ⟨fun h=>X7 (h.imp id (UG hrl).2),fun h=>I7 (fun k=>h (k.imp id (UG hrl).1))⟩
         have hwr:IntKind.i64.wrap ((ts.length:Int)+(f.length:Int))=(ts.length:Int)+(f.length:Int):=dS O0;have hlT:=u.tx.len underlying209 3;rw [Zb,Vd] at hlT;have hlF:=HF6.out.len underlying209 3;rw [Zb] at hlF;have hlR:=u.rc.len underlying210 3;rw [Rk] at hlR;clear u hR6;by_cases a4l:300<ts.length+f.length
         · have d:Hid (a_ W ts rs m ls c t=4):=by show a_ _ _ _ _ _ _ _=4;exact S.out.1 (.inl O0)
           have hi3:(300:Int)<(ts.length:Int)+(f.length:Int):=O0;clear D
           go_wp2_with fail
           go_ret;exact ⟨SB d.out o6,y.mono v,Nc y H8⟩
         · have hi3:¬ (300:Int)<(ts.length:Int)+(f.length:Int):=O0;cases bt
           · have HNX:Hid (x∉rs):=fun h=>absurd (J.2 h) o6;by_cases a4o:rv.length=150
             · have d:Hid (a_ W ts rs m ls c t=4):=by show a_ _ _ _ _ _ _ _=4;exact S.out.1 (.inr ⟨HNX.out,by rw [<- a4T.out];exact a4o⟩)
               clear D J
               go_wp2_with fail
               go_ret;exact ⟨SB d.out o6,y.mono v,Nc y H8⟩
             · have d:Hid (a_ W ts rs m ls c t=0):=by show a_ _ _ _ _ _ _ _=0;exact S.out.2 (fun h=>h.elim (fun h=>O0) (fun h=>a4o (a4T.out.trans h.2)))
               have hi5:((rv.length:Int)==150)=false:=by rw [p_];omega
               clear J
               go_wp2_with fail
               refine D.mono ?_;rintro e F ⟨rfl,n,o⟩;rw [HDN.out] at n
               replace n:=aj n
               rw [Zb] at n;have C7:=U0 (q.out.upT o n U.out.asc);have R7:=U0 (a5f.out.WY o q.out);have B7:=P9 o (fun j e=>by cases e;exact q.out.hT) O0;have BB7:=(y.mono v).trans B7;have KK7:Hid (KF w F):=by obtain ⟨es,ck,I⟩:=Nh q.out.tx;exact (Nc y H8).trans (Ez o I)
               have neT:some p.heap.size≠some bT:=fun e=>by have:=w_ e;omega
               have E7:=U0 (N9 X.out o O0 neT);have u0:=E7.out 0 _ rfl;have u1:=E7.out 1 _ rfl;have u2:=E7.out 2 _ rfl;have RV7:=RV6.out.kept o (by obtain ⟨es,ck,I⟩:=Nh q.out.tx;exact gu q.out.hT I);have h59:=c152 B H bT bR bP W _ rs rv x l g F ⟨pl,C7.out,R7.out⟩ RV7 O0 O0;rw [hxk,hxl,hxo] at h59;clear D n o
               go_wp2_with fail
               refine h59.mono ?_;rintro e w8 ⟨rfl,hS8,hB8,hK8⟩;have HK8:=U0 hK8;clear hK8;have HS8:Hid (Sh B H bT bR bP W ((Y7 W (Jl ls c t) (ts,true)).1.map (gT W)) (Hf rs (qh W m ls c t)) (rv++[.agg #[vS (d_ m),vL l ls.length g,vS (Z5 (J3 (O8 c t.data.toList)) W)]]) w8):=by
                show Sh _ _ _ _ _ _ _ _ _ _;rw [R.out,HX.out,Hf,I7 HNX.out];exact hS8
               clear h59 hS8;go_wp2;go_ret;exact ⟨a0x d.out HS8.out,BB7.trans hB8,KK7.out.trans HK8.out⟩
           · have HIX:Hid (x∈rs):=by show x∈rs;simpa using J
             have d:Hid (a_ W ts rs m ls c t=0):=by show a_ _ _ _ _ _ _ _=0;exact S.out.2 (fun h=>h.elim (fun h=>O0) (fun h=>h.1 HIX.out))
             clear J
             go_wp2_with fail
             refine D.mono ?_;rintro e F ⟨rfl,n,o⟩;rw [HDN.out] at n
             replace n:=aj n
             rw [Zb] at n;have C7:=U0 (q.out.upT o n U.out.asc);have R7:=U0 (a5f.out.WY o q.out);have B7:=P9 o (fun j e=>by cases e;exact q.out.hT) O0;have BB7:=(y.mono v).trans B7;have KK7:Hid (KF w F):=by obtain ⟨es,ck,I⟩:=Nh q.out.tx;exact (Nc y H8).trans (Ez o I)
             have HS8:Hid (Sh B H bT bR bP W ((Y7 W (Jl ls c t) (ts,true)).1.map (gT W)) (Hf rs (qh W m ls c t)) rv F):=by
              show Sh _ _ _ _ _ _ _ _ _ _;rw [R.out,HX.out,Hf,X7 HIX.out];exact ⟨pl,C7.out,R7.out⟩
             clear D n o;go_wp2;go_ret;exact ⟨a0x d.out HS8.out,BB7,KK7.out⟩
       · have d:Hid (a_ W ts rs m ls c t=3):=by show a_ _ _ _ _ _ _ _=3;unfold a_;rw [if_neg (fun h=>h HRK.out),if_pos hno]
         go_wp2;go_ret;exact ⟨SB d.out o6,BW4.mono v,Nc BW4 H8⟩
