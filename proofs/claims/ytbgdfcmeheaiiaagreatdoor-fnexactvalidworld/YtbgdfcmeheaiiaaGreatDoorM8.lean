import Derived.Test.YtbgdfcmeheaiiaaGreatDoorvF
import Derived.Test.YtbgdfcmeheaiiaaGreatDooryF
set_option linter.unusedVariables false
set_option linter.unusedSimpArgs false
set_option maxHeartbeats 8000000
set_option maxRecDepth 100000
namespace Go.Proofs.YtbgdfcmeheaiiaaGreatDoor
open Proofs.Tryz Go.RowKit Go.Maps
variable{E w':World}{W c:Int}{t:BY}{ls:List L4}{B H bP bR bT base n:Nat}{m:M3}{ts:LB}{rs:List R3}
theorem But.a2C{b:Nat}{w:World}(h:w.grownBy w' (some b)):But b w w':=⟨h.os,h.tape,h.output,h.size,λk c a=>h.block k c (λe=>a (D_ e))⟩
theorem a2e(w:World)(x y:Value)(t:TypeId):∀j u,[x,y][j]?=some u->(w.alloc (.cells #[x,y] t)).cell? ((⟨w.heap.size,0,none⟩:Addr).add j)=some u:=by
 intro j u h;rw[Sj,l7];exact I9 w [x,y] t j u h
theorem LY(c:Int)(s a:BY)(w:World)(hf:BB c s=a)(b:s.size<=1048700):Calls prog 295 #[.agg #[.int .i64 c,.string s]] w λe w'=>e=.returned (.string a)/\Bw w w':=by
 subst hf;exact OO c s w b
theorem a1b(s:BY)(n:Int)(a:BY)(w:World)(hm:G6 s n=a)(b:s.size<=1048700):Calls prog 167 #[.string s,.int .i64 n] w λe w'=>e=.returned (.string a)/\Bw w w':=by
 subst hm;exact c167 s n w b
theorem PU(h:vr c t.data.toList=true):t.size<=300:=by
 rcases P7 300 t.data.toList.length with h1|h1
 ·rw[YD h1]at h;cases h
 simpa using h1
theorem Gp(c:Int)(t:BY):(BB c t).size<=t.size+2:=by
 have e:t.data.toList.length=t.size:=Yv;unfold BB;rw[Y4];unfold S9;split
 ·simp only[x_];omega
 simp only[ve];omega
theorem a0W(h:Ee ls):∀r∈B_ ls,vr r.1 r.2.data.toList=true:=by
 have h2:∀x∈ls,Oh x:=λx hx=>by
  obtain⟨i,b,e⟩:=Ce hx;have:=h.2 i b
  rwa[show ls.getD i l_=x by simp[List.getD,D9 b,e]]at this
 clear h
 induction ls with
 | nil=>intro r hr;cases hr
 | cons x q ih=>
  intro r hr;have a:=ih (λy c=>h2 y (vg _ c));unfold B_ at hr
  cases hx:x.has with
  | true=>rw[hx]at hr;exact a r hr
  | false=>
   rw[hx]at hr;rcases je.1 hr with rfl|hr
   ·rcases(h2 x (Nq ..)).2 with⟨k,_⟩|⟨_,k⟩
    ·rw[hx]at k;cases k
    exact k
   exact a r hr
theorem NW{k:Nat}(h:k<(B_ ls).length+1):(Sl ls c t).take (k+1)=(Sl ls c t).take k++[BB ((B_ ls++[(c,t)]).getD k (0,ByteArray.empty)).1 ((B_ ls++[(c,t)]).getD k (0,ByteArray.empty)).2]:=by
 have b:k<(Sl ls c t).length:=by simp[Sl];omega
 rw[Rq,D9 b];have a:k<(B_ ls++[(c,t)]).length:=X7;simp only[Sl,OE,Option.toList_some];rw[show(B_ ls++[(c,t)]).getD k (0,ByteArray.empty)=(B_ ls++[(c,t)])[k] by simp only[List.getD,D9 a,Hg]]
theorem iO{c:OA}{j:Nat}{l:List (Int×ByteArray)}(h:E.ownsRow base 71 2 (.slice c n j) l.length (XB l))(e:l≠[]):∃g,c=some ⟨g,0,none⟩/\(g<E.heap.size/\base<=g)/\∀k,k<l.length->E.cell? ⟨g,k*2,none⟩=some (.int .i64 (l.getD k (0,ByteArray.empty)).1)/\E.cell? ⟨g,k*2+1,none⟩=some (.string (l.getD k (0,ByteArray.empty)).2):=by
 have b:=h;have d:∀(l:List (Int×ByteArray))(k:Nat),k<l.length->(XB l)[k*2]?=some (.int .i64 (l.getD k (0,ByteArray.empty)).1)/\(XB l)[k*2+1]?=some (.string (l.getD k (0,ByteArray.empty)).2):=by
  intro l
  induction l with
  | nil=>intro k a;exact absurd a (U7 _)
  | cons x r ih=>
   intro k a
   cases k with
   | zero=>exact⟨rfl,rfl⟩
   | succ k=>
    have:=ih k (by simpa using a);have e1:(k+1)*2=k*2+1+1:=O0;rw[e1];exact this
 rcases h.2 with⟨hv,h0⟩|⟨g,cap,cur,hv,i,f,_⟩
 ·exact absurd (La.1 h0) e
 simp only[Ir]at hv;obtain⟨rfl,rfl,rfl⟩:=hv;refine⟨g,rfl,⟨(Ua.1 f).1,i⟩,λk a=>?_⟩;rw[b.cellAt (k*2) O0,b.cellAt (k*2+1) O0];exact d l k a
def a4Y(W:Int)(ts:LB)(fs:LB)(w w':World)(e:Ending):Prop:=
 (∃bF f ts',e=.returned (.tuple #[.map (some bF),.bool true])/\w.heap.size<=bF/\w'.ownsMap prog 9 Oa bF f.length (mapD f)/\Fr W (ts.map (gT W)) f ts'/\Q7 W fs (ts,true)=(ts',true))\/
 (e=.returned (.tuple #[.map none,.bool false])/\(Q7 W fs (ts,true)).2=false)
theorem cl3{u:World}{t:TypeId}{a b c:Value}(h:Cl u B t [a,b,c]):u.cell? ⟨B,0,none⟩=some a/\u.cell? ⟨B,1,none⟩=some b/\u.cell? ⟨B,2,none⟩=some c:=⟨h.cell 0,h.cell 1,h.cell 2⟩
theorem a3a(B H bT bR bP:Nat)(W:Int)(ts:LB)(rs:List R3)(rv:List Value)(ls:List L4)(c:Int)(t:BY)(a:OA)(cap:Nat)(w:World)(hSh:Sh B H bT bR bP W (ts.map (gT W)) rs rv w)(hW:1<=W/\W<=8)(hA:jk W ts)(hok:Ee ls)(hv:vr c t.data.toList=true)(hl:ls.length<=1048576)(hat:X6 w a ls):
 Calls prog 240 #[.pointer (some ⟨H,0,none⟩),.slice a ls.length cap,.agg #[.int .i64 c,.string t]] w λe w'=>a4Y W ts (Sl ls c t) w w' e/\Bw w w':=by
 obtain⟨i0,hi,hz0,hz1,hz2⟩:=info_parts' ZR;obtain⟨pl,hCC,hR⟩:=hSh;obtain⟨es,ck,hTw,hTF,hTs,hTD⟩:=hCC.tx;have hbT:=(Ua.1 hTw).1;have HLT:Hid (∀(u:World)(k:BY),k.size<=maxLen->u.heap[bT]?=some (.map es ck)->(Instr.lookup 272 (.map (some bT)) (.string k) true).run prog u=.ok (.tuple #[(Z_ (ts.map (gT W)) k).getD (.agg #[.string ⟨#[]⟩,.int .i64 0,.string ⟨#[]⟩]),.bool (Z_ (ts.map (gT W)) k).isSome]) u):=λu k Z hu=>
  xC (n:=(ts.map (gT W)).length) ⟨es,ck,hu,hTF,hTs,hTD⟩ underlying272 Y0 Z
 have HVR:Hid (∀k,k<(B_ ls++[(c,t)]).length->vr ((B_ ls++[(c,t)]).getD k (0,ByteArray.empty)).1 ((B_ ls++[(c,t)]).getD k (0,ByteArray.empty)).2.data.toList=true):=λk Z=>by
  have e:(B_ ls++[(c,t)]).getD k (0,ByteArray.empty)=(B_ ls++[(c,t)])[k]:=by simp only[List.getD,D9 Z,Hg]
  rw[e];rcases Cf.1 (ji Z)with h|h
  ·exact a0W hok _ h
  rw[jo.1 h];exact hv
 have HAS:=U0 hA;have HWD:=U0 hW;have a5G:=hCC.lt;have hll:=hok.1;have hml:=qB ls;have hmm:=@run_makeMap prog;have HM1:Hid ((B_ ls).length+1<=maxLen):=by show _<=_;unfold maxLen;omega
 have HM2:Hid (((B_ ls).length+1)*24<=140737488355328):=by show _<=_;omega
 have s0:(w.alloc (.cells #[.int .i64 c,.string t] 71)).heap.size=w.heap.size+1:=O4;have s1:((w.alloc (.cells #[.int .i64 c,.string t] 71)).alloc (.map #[] 0)).heap.size=w.heap.size+2:=O4;have BU:Bw w ((w.alloc (.cells #[.int .i64 c,.string t] 71)).alloc (.map #[] 0)):=P6.alloc O4 _;have HLK:=U0 (Z4 hat BU);have M0:=World.ownsMap_made (w.alloc (.cells #[.int .i64 c,.string t] 71)) prog 9 Oa;rw[s0]at M0;have MU:Hid (((w.alloc (.cells #[.int .i64 c,.string t] 71)).alloc (.map #[] 0)).ownsMap prog 9 Oa (w.heap.size+1) ([]:List (ByteArray×Value)).length (mapD [])):=M0;have e0:((w.alloc (.cells #[.int .i64 c,.string t] 71)).alloc (.map #[] 0)).cell? ⟨w.heap.size,0,none⟩=some (.int .i64 c):=by simp[go_sem]
 have e1:((w.alloc (.cells #[.int .i64 c,.string t] 71)).alloc (.map #[] 0)).cell? ⟨w.heap.size,1,none⟩=some (.string t):=by simp[go_sem]
 clear hat M0 hA hW hok hv hTF hTs hTD
 go_in
 go_wp2_with fail
 rename_i K0 hK0;generalize ((w.alloc (.cells #[.int .i64 c,.string t] 71)).alloc (.map #[] 0))=x at*;have TAIL:∀(va:Value)(q:Nat)(N:OA)(L:Nat)(E:World),Bw x E->Hid (E.ownsRow x.heap.size 71 2 (.slice N ((B_ ls).length+1) L) ((B_ ls).length+1) (XB (B_ ls)++[.int .i64 c,.string t]))->K0 { tmps:=#[.pointer (some ⟨H,0,none⟩),.slice a ls.length cap,.agg #[.int .i64 c,.string t],undef,undef,.pointer (some ⟨w.heap.size,0,none⟩),.map none,.bool false,.map (some (w.heap.size+1)),undef,undef,undef,undef,undef,undef,.map (some (w.heap.size+1)),.slice a ls.length cap,va,.agg #[.int .i64 c,.string t],.slice (some ⟨q,0,none⟩) 1 1,.slice N ((B_ ls).length+1) L,.int .i64 ((B_ ls).length+1:Nat),.int .i64 0,undef,undef,undef,undef,undef,undef,undef,undef,undef,undef,undef,undef,undef,undef,undef,undef,undef,undef,undef,undef,undef,undef,undef,undef,undef,undef,undef,undef,undef,undef,undef,undef,undef,undef,undef,undef,undef,undef,undef,undef,undef,undef,undef,undef],defers:=[] } E:=by
  intro va q N L E hE I;have hEs:=hE.size;obtain⟨g,rfl,hgE,hgc⟩:=iO (l:=(B_ ls++[(c,t)])) (by rw[JC];simpa using I.out) O4;have HGC:=U0 hgc;have BWE:=BU.trans (hE.mono O0);have CE:=hCC.below BWE;have hE0:=CE.blk 0 _ rfl;have hE1:=CE.blk 1 _ rfl;have hTE:=(BWE.block bT hbT).trans hTw;have ME:=U0 (Yc MU.out hE O0);have hHZ:=a5G;have hgN:g≠w.heap.size+1:=O0;clear hgc I CE;refine hK0 _ _ ?_;clear hK0;go_wp2;go_loopw[22] (λi wr=>∃(k:Nat)(f:List (ByteArray×Value))(tk:List ByteArray),k<=(B_ ls).length+1/\i=.int .i64 k/\Hid (wr.ownsMap prog 9 Oa (w.heap.size+1) f.length (mapD f))/\Hid (Fr W (ts.map (gT W)) f tk)/\Hid (Q7 W ((Sl ls c t).take k) (ts,true)=(tk,true))/\f.length<=k/\But (w.heap.size+1) E wr) (λi _=>(B_ ls).length+1-(Go.RowKit.intOf i).toNat);exact⟨0,[],ts,I4 _,rfl,ME,Fr.start HAS.out,rfl,J9 _,But.refl _ _⟩;obtain⟨k,f,tk,Z,rfl,HMr,HFr,HPu,hfk,BTr⟩:=hrel;have szr:=BTr.size;by_cases hlt:k<(B_ ls).length+1
  ·have gk:=HGC.out k (by simpa using hlt);have g0:=(BTr.cell (p:=⟨g,k*2,none⟩) hgE.1 hgN).trans gk.1;have g1:=(BTr.cell (p:=⟨g,k*2+1,none⟩) hgE.1 hgN).trans gk.2;have HTK:=U0 (NW (c:=c) (t:=t) hlt);have hvr:=HVR.out k (by simpa using hlt);generalize ((B_ ls++[(c,t)])).getD k (0,ByteArray.empty)=r at*;clear gk;obtain⟨m,hfm⟩:∃m,BB r.1 r.2=m:=⟨_,rfl⟩;have HFM:=U0 hfm;have HVF:=U0 (hfm▸a2J hvr);have hr3:=PU hvr;have hr7:r.2.size<=1048700:=O0;have a6z:m.size<=1048700:=by rw[<- hfm];have:=Gp r.1 r.2;omega
   rw[hfm]at HTK;obtain⟨A,hsm⟩:∃A,G6 m W=A:=⟨_,rfl⟩;have HSM:=U0 hsm;have HSZ:Hid (A.size<=maxLen):=by show _<=_;rw[<- hsm,pq HWD.out];have:=HWD.out;unfold maxLen;omega
   clear hfm hsm;have BX0:Bw wr (wr.alloc (.cells #[.int .i64 r.1,.string r.2] 71)):=P6;have C0:=U0 (U3 wr [.int .i64 r.1,.string r.2] 71);have hx:wr.heap.size<(wr.alloc (.cells #[.int .i64 r.1,.string r.2] 71)).heap.size:=O4
   go_wp2_with fail
   generalize wr.alloc (.cells #[.int .i64 r.1,.string r.2] 71)=x0 at*;clear g0 g1;have J:Hid (∀u,Bw x0 u->u.cell? ⟨wr.heap.size,0,none⟩=some (.int .i64 r.1)/\u.cell? ⟨wr.heap.size,1,none⟩=some (.string r.2)):=λu hu=>⟨(hu.cell hx).trans (C0.out.cell 0),(hu.cell hx).trans (C0.out.cell 1)⟩
   go_cut[11] from 23 to 29 (λs wx=>∃B,s=.pointer (some ⟨B,0,none⟩)/\x0.heap.size<=B/\Hid (Cl wx B 280 [.string m,.int .i64 r.1,.string r.2])/\Hid (Bw x0 wx))
   case first=>
    have d:Bw x0 x0.drew:=(J4 _ _).drew;refine FO J d Y0 λhH=>?_;generalize x0.drew=y at*;refine U8 0 ?_;refine U8 2 ?_;refine wpAnyH_ready (rs:=[1,4]) Y0 O4 ?_;refine AllReadyH.cons (o:=⟨some 27,.call ⟨.value (.func 295),#[.tmp 26],#[71]⟩,9,_,_,none⟩) rfl (λK b=>?_) (AllReadyH.cons (o:=⟨some 11,.alloc 280,0,_,_,none⟩) rfl (λK b=>?_) AllReadyH.nil)
    ·go_simp;refine(LY r.1 r.2 m _ HFM.out hr7).mono ?_;rintro e u0⟨rfl,U⟩
     replace d:=P5 d U
     clear U;go_simp;refine X8 b (J.out _ d) λhH=>?_;clear b K;refine sq ?_;refine rq 4 λK b=>?_;go_simp;have X:=U0 (U3 u0 [.string ⟨#[]⟩,.int .i64 0,.string ⟨#[]⟩] 280);have hA:=d.size
     replace d:=P5 d (P6 (w:=u0) (o:=.cells #[.string ⟨#[]⟩,.int .i64 0,.string ⟨#[]⟩] 280))
     refine X8 b (J.out _ d) λhH=>?_;clear b K;generalize u0.alloc (.cells #[.string ⟨#[]⟩,.int .i64 0,.string ⟨#[]⟩] 280)=ya at*;refine rq 5 λK b=>?_;refine Va rfl 280 _ _ rfl (j:=0) rfl rfl X.out Y8 (A8 rfl) Y0 ?_;intro z cz oz
     replace d:=d.trans (oz.below hA)
     have CZ:=U0 cz;refine X8 b (J.out _ d) λhH=>?_;clear b K;refine wdn ?_
     go_wp2_with fail
     go_meet
     exact⟨_,rfl,hA,CZ,d⟩
    go_simp;have X:=U0 (U3 y [.string ⟨#[]⟩,.int .i64 0,.string ⟨#[]⟩] 280);have hA:=d.size
    replace d:=P5 d (P6 (w:=y) (o:=.cells #[.string ⟨#[]⟩,.int .i64 0,.string ⟨#[]⟩] 280))
    refine X8 b (J.out _ d) λhH=>?_;clear b K;generalize y.alloc (.cells #[.string ⟨#[]⟩,.int .i64 0,.string ⟨#[]⟩] 280)=ya at*;refine rq 1 λK b=>?_;go_simp;refine(LY r.1 r.2 m _ HFM.out hr7).mono ?_;rintro e u0⟨rfl,U⟩
    replace d:=P5 d U
    replace X:=U0 (X.out.below U X.out.lt)
    clear U;go_simp;refine X8 b (J.out _ d) λhH=>?_;clear b K;refine sq ?_;refine rq 5 λK b=>?_;refine Va rfl 280 _ _ rfl (j:=0) rfl rfl X.out Y8 (A8 rfl) Y0 ?_;intro z cz oz
    replace d:=d.trans (oz.below hA)
    have CZ:=U0 cz;refine X8 b (J.out _ d) λhH=>?_;clear b K;refine wdn ?_
    go_wp2_with fail
    go_meet
    exact⟨_,rfl,hA,CZ,d⟩
   obtain⟨B,rfl,hB,CB,BX⟩:=hcut;clear J;have BT3:=BTr.trans (But.of_below (BX0.trans (BX.out.mono (Uu hx))));have M3:=U0 (Yc HMr.out (BX0.trans (BX.out.mono (Uu hx))) O0);have h0:=(BT3.cell (p:=⟨H,0,none⟩) (show H<E.heap.size by omega) (show H≠w.heap.size+1 by omega)).trans hE0;have a0:=CB.out.cell 0;have hBz:=BX.out.size;clear BX C0
   go_wp2_with fail
   refine wp_region_held_drew (S:=(λu=>u.cell? ⟨B,0,none⟩=some (.string m)/\u.cell? ⟨H,0,none⟩=some (.int .i64 W))) Y0 ⟨a0,h0⟩ λhHeld=>?_
   iterate 6 refine sq ?_
   refine rq 6 λK b=>?_;go_simp;refine(a1b m W A _ HSM.out a6z).mono ?_;rintro e C⟨rfl,hb4⟩
   go_wp2_with fail
   have b4:Bw wc C:=((J4 _ _).drew).trans hb4;have s4:=b4.size;have hB4:=CB.out.lt;have V:=U0 (CB.out.below b4 hB4);have O:=BT3.trans (But.of_below b4);have M4:=U0 (Yc M3.out b4 O0);obtain⟨a1,a2,a3⟩:=cl3 V.out;have h1:=(O.cell (p:=⟨H,0,none⟩) (show H<E.heap.size by omega) (show H≠w.heap.size+1 by omega)).trans hE0;have h2:=(O.cell (p:=⟨H,1,none⟩) (show H<E.heap.size by omega) (show H≠w.heap.size+1 by omega)).trans hE1;have hT4:=(O.block bT O0 O0).trans hTE;clear hHeld hb4;refine X8 b ⟨a1,h1⟩ λhHeld=>?_;clear b K;refine sq ?_;refine wdn ?_;clear hHeld M3 BT3 a0 h0;have a5X:=BWE.trans (O.below O0 O0);have szZ:w.heap.size<=C.heap.size:=O0;have MET:∀v,(Z_ (ts.map (gT W)) A=some v\/Z_ f A=some v)->∃y,v=hV y/\((y=m/\Hid (Q7 W ((Sl ls c t).take (k+1)) (ts,true)=(tk,true)))\/(¬y.toList=m.toList/\Hid ((Q7 W (Sl ls c t) (ts,true)).2=false))):=λv hv=>by
    obtain⟨y,hvy,hput⟩:=HFr.out.met (W:=W) (t:=m) (by rw[HSM.out];exact hv);have h:Q7 W ((Sl ls c t).take (k+1)) (ts,true)=(tk,decide (y=m)):=by
     rw[HTK.out,Am,HPu.out];show((Fb W m tk).1,true&&(Fb W m tk).2)=_;rw[hput];rfl
    refine⟨y,hvy,?_⟩;by_cases hy:y=m
    ·rw[m_ hy]at h;exact .inl ⟨hy,h⟩
    rw[y9 hy]at h;refine .inr ⟨λe=>hy ((Td y m).1 e),?_⟩;show(Q7 _ _ _).2=false;rw[<- Qk (k+1) (Sl ls c t),Am,h];exact zO _ _ _
   have Q:=HLT.out C A HSZ.out hT4
   cases hqm:Z_ (ts.map (gT W)) A with
   | some v=>
    rw[hqm]at Q;simp only[Hg,Option.isSome_some]at Q;obtain⟨y,rfl,⟨rfl,HP⟩|⟨hne,HN⟩⟩:=MET v (.inl hqm)
    ·rw[HVF.out]at Q;have d:Bw C (C.alloc (.cells #[.string y,.int .i64 r.1,.string r.2] 280)):=P6;obtain⟨n0,n1,n2⟩:=cl3 (V.out.below d O0);go_wp2;go_roundw;exact⟨k+1,f,tk,O0,by go_num,U0 (Yc M4.out d O0),HFr,HP,O0,O.trans (But.of_below d)⟩;exact P9
    unfold hV at Q;have d:Bw C (C.alloc (.cells #[.string y,.int .i64 (hC y),.string (hT y)] 280)):=P6;obtain⟨n0,n1,n2⟩:=cl3 (V.out.below d O0);go_wp2;go_ret2;exact⟨.inr ⟨rfl,HN.out⟩,a5X.trans (d.mono O0)⟩
   | none=>
    rw[hqm]at Q;simp only[Option.getD_none,Option.isSome_none]at Q;have b5:Bw C (C.alloc (.cells #[.string ⟨#[]⟩,.int .i64 0,.string ⟨#[]⟩] 280)):=P6;obtain⟨m0,m1,m2⟩:=cl3 (V.out.below b5 O0);have M5:=U0 (Yc M4.out b5 O0);have R:=xC (k:=A) (z:=.agg #[.string ⟨#[]⟩,.int .i64 0,.string ⟨#[]⟩]) M5.out underlying272 Y0 HSZ.out
    cases hqf:Z_ f A with
    | some v=>
     rw[hqf]at R;simp only[Hg,Option.isSome_some]at R;obtain⟨y,rfl,⟨rfl,HP⟩|⟨hne,HN⟩⟩:=MET v (.inr hqf)
     ·rw[HVF.out]at R;have d:Bw C (C.alloc (.cells #[.string y,.int .i64 r.1,.string r.2] 280)):=P6;obtain⟨n0,n1,n2⟩:=cl3 (V.out.below d O0);go_wp2;go_roundw;exact⟨k+1,f,tk,O0,by go_num,U0 (Yc M4.out d O0),HFr,HP,O0,O.trans (But.of_below d)⟩;exact P9
     unfold hV at R;have d:Bw C (C.alloc (.cells #[.string y,.int .i64 (hC y),.string (hT y)] 280)):=P6;obtain⟨n0,n1,n2⟩:=cl3 (V.out.below d O0);go_wp2;go_ret2;exact⟨.inr ⟨rfl,HN.out⟩,a5X.trans (d.mono O0)⟩
    | none=>
     rw[hqf]at R;simp only[Option.getD_none,Option.isSome_none]at R;have HFL:Hid (f.length<maxLen):=by show _<_;unfold maxLen;omega
     have HV2:Hid (Oa (.agg #[.string m,.int .i64 r.1,.string r.2])=some (.held (hV m),[])):=by show Oa _=_;rw[HVF.out];rfl
     have HAD:=U0 (HFr.out.add (t:=m) (by rw[HSM.out];exact hqm) (by rw[HSM.out];exact hqf));have HP3:Hid (Q7 W ((Sl ls c t).take (k+1)) (ts,true)=(Zl W m tk,true)):=by
      show Q7 _ _ _=_;rw[HTK.out,Am,HPu.out];show((Fb W m tk).1,true&&(Fb W m tk).2)=_;rw[HAD.out.1];rfl
     have HG:Hid (gT W m=(A,hV m)):=by show(G6 m W,hV m)=_;rw[HSM.out]
     go_wp2_with(at_mapUpdate;refine wpList_mapUpdate_own _ rfl _ _ _ 272 rfl 9 280 Gx underlying272 Oa (w.heap.size+1) f.length (mapD f) rfl M5.out HFL.out _ _ (kS A) rfl rfl (keyS HSZ.out) (.held (hV m)) [] HV2.out ?_;intro x6 P hg6)
     rw[uz _ hqf]at P
     replace P:=Ej P
     rw[Ec]at P;have hfl:(Gg (A,hV m) f).length=f.length+1:=by rw[(Md _ _).length_eq];rfl
     have a6A:Hid (Fr W (ts.map (gT W)) (Gg (A,hV m) f) (Zl W m tk)):=by have h:=HAD.out.2;rw[HG.out]at h;exact h
     have HM6:=U0 P;have BT6:=(O.trans (But.of_below b5)).trans (But.a2C hg6);clear P hg6;go_roundw;exact⟨k+1,Gg (A,hV m) f,Zl W m tk,O0,by go_num,HM6,a6A,HP3,O0,BT6⟩;exact P9
  obtain rfl:k=(B_ ls).length+1:=O0;have HPF:Hid (Q7 W (Sl ls c t) (ts,true)=(tk,true)):=by have h:=HPu.out;rw[p_ (by simp[Sl])]at h;exact h
  go_wp2;go_ret2;exact⟨.inl ⟨w.heap.size+1,f,tk,rfl,O0,HMr.out,HFr.out,HPF.out⟩,BWE.trans (BTr.below O0 O0)⟩
 refine wp_region_held_drew (S:=(λu=>u.cell? ⟨w.heap.size,0,none⟩=some (.int .i64 c)/\u.cell? ⟨w.heap.size,1,none⟩=some (.string t))) Y0 ?_ λhHeld=>?_
 ·exact⟨e0,e1⟩
 refine U8 0 ?_;refine U8 2 ?_;refine U8 6 ?_;refine wpAnyH_ready (rs:=[1,3]) Y0 O4 ?_;refine AllReadyH.cons (o:=⟨some 17,.call ⟨.value (.func 294),#[.tmp 16],#[69]⟩,422,_,_,none⟩) rfl (λK b=>?_) (AllReadyH.cons (o:=⟨some 19,.buildSlice 422 1 #[(0,.tmp 18)],422,_,_,none⟩) rfl (λK b=>?_) AllReadyH.nil)
 ·go_simp;refine(a1N ls a cap _ hl (Z4 HLK.out ((J4 _ _).drew))).mono ?_;rintro e u2⟨⟨va,rfl,hva⟩,a6B⟩
  go_wp2_with fail
  have B2:Bw x u2:=((J4 _ _).drew).trans a6B;have s2:=B2.size;have hdr:x.drew.heap.size<=x.heap.size/\x.heap.size<=x.drew.heap.size:=⟨J9 _,J9 _⟩;have p0:=(B2.cell (by show w.heap.size<x.heap.size;omega)).trans e0;have p1:=(B2.cell (by show w.heap.size<x.heap.size;omega)).trans e1;clear hHeld;refine X8 b ⟨p0,p1⟩ λhHeld=>?_;clear b K;refine rq 3 λK b=>?_;go_simp;have D:Bw u2 (u2.alloc (.cells #[.int .i64 c,.string t] 71)):=P6;have cA:=a2e u2 (.int .i64 c) (.string t) 71;have sA:(u2.alloc (.cells #[.int .i64 c,.string t] 71)).heap.size=u2.heap.size+1:=O4;have q0:=(D.cell (by show w.heap.size<u2.heap.size;omega)).trans p0;have q1:=(D.cell (by show w.heap.size<u2.heap.size;omega)).trans p1;clear hHeld;refine X8 b ⟨q0,q1⟩ λhHeld=>?_;clear b K;have Y:=U0 (own_below hva D);have B3:=B2.trans (D.mono s2);generalize (u2.alloc (.cells #[.int .i64 c,.string t] 71))=u3 at*;refine rq 4 λK b=>?_;refine Tj rfl (.tmp 17) (.tmp 19) 422 rfl _ 71 i0 (.agg #[.int .i64 0,.string ⟨#[]⟩]) 2 24 underlying422 hi hz0 hz1 hz2 rfl J6 va _ _ rfl Y.out ⟨u2.heap.size,0,none⟩ 1 1 [.int .i64 c,.string t] rfl rfl cA (by simp[Value.oneCell']) HM1.out HM2.out O0 ?_;intro v4 u4 ho4 hg4 hl4;have F:=B3.trans (G_ hg4 (λj e=>Q8 O0 (Y6 Y.out e)) O0);have s4:=F.size;have I:=U0 (a_ ho4 (base':=x.heap.size) O0);obtain⟨N,L,hv4⟩:=Z9 I.out;have k0:=(F.cell (by show w.heap.size<x.heap.size;omega)).trans e0;have k1:=(F.cell (by show w.heap.size<x.heap.size;omega)).trans e1;subst hv4;clear hHeld;refine X8 b ⟨k0,k1⟩ λhHeld=>?_;clear b K;refine sq ?_;refine wdn ?_;exact TAIL va u2.heap.size N L u4 F I
 go_simp;have D:Bw x ((x.alloc (.cells #[.int .i64 c,.string t] 71)).drew):=P6.drew;have cA0:=a2e x (.int .i64 c) (.string t) 71;have sA:((x.alloc (.cells #[.int .i64 c,.string t] 71)).drew).heap.size=x.heap.size+1:=O4;have q0:=(D.cell (by show w.heap.size<x.heap.size;omega)).trans e0;have q1:=(D.cell (by show w.heap.size<x.heap.size;omega)).trans e1;clear hHeld;refine X8 b ⟨q0,q1⟩ λhHeld=>?_;clear b K;have cA1:∀j u,[Value.int .i64 c,.string t][j]?=some u->((x.alloc (.cells #[.int .i64 c,.string t] 71)).drew).cell? ((⟨x.heap.size,0,none⟩:Addr).add j)=some u:=cA0;generalize ((x.alloc (.cells #[.int .i64 c,.string t] 71)).drew)=u2 at*;refine rq 1 λK b=>?_;go_simp;refine(a1N ls a cap _ hl (Z4 HLK.out D)).mono ?_;rintro e u3⟨⟨va,rfl,hva⟩,a5w⟩
 go_wp2_with fail
 have s3:=a5w.size;have B3:=D.trans (a5w.mono O0);have q2:=(a5w.cell (by show w.heap.size<u2.heap.size;omega)).trans q0;have q3:=(a5w.cell (by show w.heap.size<u2.heap.size;omega)).trans q1;have cA:∀j u,[Value.int .i64 c,.string t][j]?=some u->u3.cell? ((⟨w.heap.size+2,0,none⟩:Addr).add j)=some u:=λj u h=>by
  rw[<- s1];exact(a5w.cell (by rw[Sj];show x.heap.size<u2.heap.size;omega)).trans (cA1 j u h)
 clear hHeld;refine X8 b ⟨q2,q3⟩ λhHeld=>?_;clear b K;have Y:=U0 hva;refine rq 4 λK b=>?_;refine Tj rfl (.tmp 17) (.tmp 19) 422 rfl _ 71 i0 (.agg #[.int .i64 0,.string ⟨#[]⟩]) 2 24 underlying422 hi hz0 hz1 hz2 rfl J6 va _ _ rfl Y.out ⟨w.heap.size+2,0,none⟩ 1 1 [.int .i64 c,.string t] rfl rfl cA (by simp[Value.oneCell']) HM1.out HM2.out O0 ?_;intro v4 u4 ho4 hg4 hl4;have F:=B3.trans (G_ hg4 (λj e=>Q8 O0 (Y6 Y.out e)) O0);have s4:=F.size;have I:=U0 (a_ ho4 (base':=x.heap.size) O0);obtain⟨N,L,hv4⟩:=Z9 I.out;have k0:=(F.cell (by show w.heap.size<x.heap.size;omega)).trans e0;have k1:=(F.cell (by show w.heap.size<x.heap.size;omega)).trans e1;subst hv4;clear hHeld;refine X8 b ⟨k0,k1⟩ λhHeld=>?_;clear b K;refine sq ?_;refine wdn ?_;exact TAIL va (w.heap.size+2) N L u4 F I
open Classical in
noncomputable def t_(W:Int)(ts:LB)(rs:List R3)(m:M3)(ls:List L4)(c:Int)(t:BY):Int:=
 if ¬bg m ls c t then 2 else if (Q7 W (Sl ls c t) (ts,true)).2=false then 3 else
 if 300<(Q7 W (Sl ls c t) (ts,true)).1.length\/150<(yg rs (Wh W m ls c t)).length then 4 else 0
theorem uY{s:BY}{v:Bool}(hv:vr c s.data.toList=v)(w:World)(a:s.size<=1048700):Calls prog 187 #[.agg #[.int .i64 c,.string s]] w λe w'=>e=.returned (.bool v)/\Bw w w':=hv▸wO c s w a
theorem UH(h:Xe m=true):(Fe m).size<=321:=by
 unfold Xe Y5 at h;simp only[X_,Zc]at h;have e:m.tl.data.toList.length=m.tl.size:=Yv;have h1:=h.1.2.1.2;have h2:=h.2;unfold Fe;rw[NE,NE];have e1:(⟨#[32]⟩:BY).size=1:=rfl;omega
theorem IQ{a:Int}(h:0<=a/\a<=1000000):IntKind.i64.wrap a=a:=by
 exact IntWalk.i64_in a O0
theorem JR(W:Int)(t:BY)(ts:LB):(Zl W t ts).length=ts.length+1:=by
 have h:=U6 List.length (Dz W t ts);rw[Je,(Md _ _).length_eq]at h;simpa using h
theorem dU(W:Int)(t:BY)(ts:LB):(Fb W t ts).1.length<=ts.length+1:=by
 unfold Fb;split
 ·exact Nat.le_succ _
 rw[JR];exact J9 _
theorem fA(W:Int):∀(a ts:LB)(b:Bool),(Q7 W a (ts,b)).1.length<=ts.length+a.length
 | [],ts,b=>J9 _
 | t::r,ts,b=>by
  have h1:=fA W r (Fb W t ts).1 (b&&(Fb W t ts).2);have h2:=dU W t ts;have e:Q7 W (t::r) (ts,b)=Q7 W r ((Fb W t ts).1,b&&(Fb W t ts).2):=rfl;rw[e,x_];omega
theorem MZ{d:OA}{m:Nat}(h:E.ownsRow base 256 3 (.slice d n m) ls.length (bG W ls)):W_ E d (ls.map (Ux W))/\(ls.map (Ux W)=[]\/∃b off,d=some ⟨b,off,none⟩/\∃cur fr,E.heap[b]?=some (.cells cur 256 fr)):=by
 have c:=h;have i:∀(l:List L4)(k:Nat),k<l.length->(bG W l)[k*3]?=some (.bool (l.getD k l_).has)/\(bG W l)[k*3+1]?=some (vS (l.getD k l_).nm)/\(bG W l)[k*3+2]?=some (vS (G6 (iq (l.getD k l_)) W)):=by
  intro l
  induction l with
  | nil=>intro k a;exact absurd a (U7 _)
  | cons x r ih=>
   intro k a
   cases k with
   | zero=>exact⟨rfl,rfl,rfl⟩
   | succ k=>
    have:=ih k (by simpa using a);have e1:(k+1)*3=k*3+1+1+1:=O0;rw[e1];exact this
 rcases h.2 with⟨hv,h0⟩|⟨g,cap,cur,hv,hg,f,_⟩
 ·have e:=La.1 h0;subst e;exact⟨.inl rfl,.inl rfl⟩
 simp only[Ir]at hv;obtain⟨rfl,rfl,rfl⟩:=hv;refine⟨.inr ⟨g,0,rfl,(Ua.1 f).1,λk a=>?_⟩,.inr ⟨g,0,rfl,cur,(0,0),f⟩⟩;rw[Je]at a;have e:(ls.map (Ux W)).getD k ah=Ux W (ls.getD k l_):=by simp only[List.getD,Az,D9 a,yu,Hg]
 obtain⟨e0,e1,j⟩:=i ls k a;rw[e];refine⟨?_,?_,?_⟩
 ·rw[l7,c.cellAt (k*3) O0];exact e0
 ·rw[l7,c.cellAt (k*3+1) O0];exact e1
 rw[l7,c.cellAt (k*3+2) O0];exact j
theorem Fr.vals{l f:List (ByteArray×Value)}(h:Fr W l f ts):∀p∈f,∃q,p.2=tZ q:=λp a=>by
 obtain⟨y,_,rfl⟩:=Zm.1 (h.perm.mem_iff.2 (List.mem_append_left l a));exact⟨(y,hC y,hT y),rfl⟩
theorem lG{x:R3}(h:rs.length<=150):150<(yg rs x).length↔x∉rs/\rs.length=150:=by
 unfold yg;split
 ·rename_i hx;constructor
  ·intro h1;omega
  intro h1;exact absurd hx h1.1
 rename_i hx;simp only[L9,Aj];constructor
 ·intro h1;exact⟨hx,O0⟩
 intro h1;omega
theorem NK{x:L4}(h:x.tx.size<=1048576):(iq x).size<=1048700:=by
 unfold iq;split
 ·split<;>decide
 have:=Gp x.cd x.tx;unfold BB at this;omega
def a0t(B H bT bR bP:Nat)(W:Int)(ts:LB)(rs:List R3)(m:M3)(ls:List L4)(c:Int)(t:BY)(w':World)(e:Ending):Prop:=
 e=.returned (.int .i64 (t_ W ts rs m ls c t))/\(t_ W ts rs m ls c t=0->∃rv',Sh B H bT bR bP W ((Q7 W (Sl ls c t) (ts,true)).1.map (gT W)) (yg rs (Wh W m ls c t)) rv' w')
theorem KC{n:Int}(h:t_ W ts rs m ls c t=n)(a:n≠0):a0t B H bT bR bP W ts rs m ls c t w' (.returned (.int .i64 n)):=⟨by rw[h],λe=>absurd (h.symm.trans e) a⟩
theorem a1T{a:List Value}(h:t_ W ts rs m ls c t=0)(b:Sh B H bT bR bP W ((Q7 W (Sl ls c t) (ts,true)).1.map (gT W)) (yg rs (Wh W m ls c t)) a w'):a0t B H bT bR bP W ts rs m ls c t w' (.returned (.int .i64 0)):=⟨by rw[h],λ_=>⟨a,b⟩⟩
theorem c173(B H bT bR bP:Nat)(W:Int)(ts:LB)(rs:List R3)(rv:List Value)(m:M3)(ls:List L4)(c:Int)(t:BY)(a:OA)(O:Nat)(w:World)(hSh:Sh B H bT bR bP W (ts.map (gT W)) rs rv w)(hW:1<=W/\W<=8)(hA:jk W ts)(htl:ts.length<=300)(hrl:rs.length<=150)(hgs:∀i,(rs.getD i j_).gs.length<=1048576)(hm:m.le 1048576)(hl:ls.length<=1048576)(Z:∀i,(ls.getD i l_).le 1048576)(ht:t.size<=1048576)(hat:X6 w a ls):
 Calls prog 173 #[.pointer (some ⟨H,0,none⟩),.agg #[.string m.nm,.string m.tl,.string m.ar],.slice a ls.length O,.agg #[.int .i64 c,.string t]] w λe w'=>a0t B H bT bR bP W ts rs m ls c t w' e/\Below B w w'/\KF w w':=by
 have s:B<=w.heap.size:=by obtain⟨pl,h1,_⟩:=hSh;have:=h1.hH;have:=h1.lt;omega
 have BW0:Bw w ((w.alloc (.cells #[vS m.nm,vS m.tl,vS m.ar] 68)).alloc (.cells #[vI c,vS t] 71)):=P6.alloc O4 _;have s0:((w.alloc (.cells #[vS m.nm,vS m.tl,vS m.ar] 68)).alloc (.cells #[vI c,vS t] 71)).heap.size=w.heap.size+2:=O4;have X:Hid (E5 ((w.alloc (.cells #[vS m.nm,vS m.tl,vS m.ar] 68)).alloc (.cells #[vI c,vS t] 71)) w.heap.size [vS m.nm,vS m.tl,vS m.ar]):=U0 ((I9 w [vS m.nm,vS m.tl,vS m.ar] 68).below (N:=w.heap.size+1) ((J4 _ _).alloc O4 _) O0);have BC0:Hid (E5 ((w.alloc (.cells #[vS m.nm,vS m.tl,vS m.ar] 68)).alloc (.cells #[vI c,vS t] 71)) (w.heap.size+1) [vI c,vS t]):=by have h:=I9 (w.alloc (.cells #[vS m.nm,vS m.tl,vS m.ar] 68)) [vI c,vS t] 71;rw[show(w.alloc (.cells #[vS m.nm,vS m.tl,vS m.ar] 68)).heap.size=w.heap.size+1 by simp]at h;exact h
 have k0:=X.out 0 _ rfl;have k1:=X.out 1 _ rfl;have k2:=X.out 2 _ rfl;have HSH:=U0 hSh;have hkR:m.tl.size<=1048576/\m.ar.size<=1048576:=⟨hm.2.1,hm.2.2⟩;have HM7:Hid (m.le 1048700):=⟨Q8 hm.1 O0,Q8 hm.2.1 O0,Q8 hm.2.2 O0⟩
 go_in
 go_wp2_with fail
 generalize ((w.alloc (.cells #[vS m.nm,vS m.tl,vS m.ar] 68)).alloc (.cells #[vI c,vS t] 71))=U1 at*;cases hn:Xe m
 ·have d:Hid (t_ W ts rs m ls c t=2):=by show t_ _ _ _ _ _ _ _=2;unfold t_;rw[if_pos (λh=>by have h1:=h.1;rw[hn]at h1;cases h1)]
  refine(OL hn _ HM7).mono ?_;rintro e w1⟨rfl,v⟩;go_wp2;go_ret;exact⟨KC d J6,(BW0.trans (v.mono O0)).mono s,Xc (BW0.trans (v.mono O0)) Y8⟩
 refine(OL hn _ HM7).mono ?_;rintro e w1⟨rfl,v⟩;have s1:=v.size;have BK1:=U0 (X.out.below v O0);have BC1:=U0 (BC0.out.below v O0);have BW1:=BW0.trans (v.mono O0)
 go_wp2_with fail
 refine(JX a O ls _ hl Z (Z4 hat BW1)).mono ?_;rintro e w2⟨⟨r,rfl,hr⟩,L⟩;have s2:=L.size;have BK2:=U0 (BK1.out.below L O0);have BC2:=U0 (BC1.out.below L O0);have V:=BW1.trans (L.mono O0);have j0:=BC2.out 0 _ rfl;have j1:=BC2.out 1 _ rfl;cases r
 ·have d:Hid (t_ W ts rs m ls c t=2):=by show t_ _ _ _ _ _ _ _=2;unfold t_;rw[if_pos (λh=>absurd (hr.2 h.2.1) J6)]
  go_wp2;go_ret;exact⟨KC d.out J6,V.mono s,Xc V Y8⟩
 have hlo:=hr.1 rfl;clear hr
 go_wp2_with fail
 cases hv:vr c t.data.toList
 ·have d:Hid (t_ W ts rs m ls c t=2):=by show t_ _ _ _ _ _ _ _=2;unfold t_;rw[if_pos (λh=>by have h1:=h.2.2;rw[hv]at h1;cases h1)]
  refine(uY hv _ O0).mono ?_;rintro e w3⟨rfl,C⟩;have D:=V.trans (C.mono O0);go_wp2;go_ret;exact⟨KC d J6,D.mono s,Xc D Y8⟩
 refine(uY hv _ O0).mono ?_;rintro e w3⟨rfl,C⟩;have s3:=C.size;have BK3:=U0 (BK2.out.below C O0);have BC3:=U0 (BC2.out.below C O0);have D:=V.trans (C.mono O0);have HRK:Hid (bg m ls c t):=⟨hn,hlo,hv⟩;have i0:=BC3.out 0 _ rfl;have i1:=BC3.out 1 _ rfl;have HL3:=U0 (Z4 hat D);have HS3:=U0 (HSH.out.below D);have h63:=a3a B H bT bR bP W ts rs rv ls c t a O w3 HS3 hW hA hlo hv hl HL3
 go_wp2_with fail
 refine h63.mono ?_;rintro e I⟨hfr,A⟩;have s4:=A.size;have BK4:=U0 (BK3.out.below A O0);have BC4:=U0 (BC3.out.below A O0);have BW4:=D.trans (A.mono O0);rcases hfr with⟨bF,f,J,rfl,hbF,hmF,hFr,hpu⟩|⟨rfl,hno⟩
 ·have R:=U0 hFr;have P:=U0 hpu;have HMF:=U0 hmF;have HS4:=U0 (HS3.out.below A);have HL4:=U0 (Z4 HL3 A);have q0:=BC4.out 0 _ rfl;have q1:=BC4.out 1 _ rfl;have p0:=BK4.out 0 _ rfl;have p1:=BK4.out 1 _ rfl;have p2:=BK4.out 2 _ rfl;have hfl:f.length+ts.length=J.length:=by have:=hFr.done.2;rw[Je]at this;omega
  have hH4:H<I.heap.size/\I.cell? (aA H 0)=some (vI W):=by obtain⟨pl,h1,_⟩:=HS4.out;exact⟨h1.lt,h1.blk 0 _ rfl⟩
  have h64:=a4w m ls c t W H a O I ⟨Nat.le_trans hm.1 O0,Nat.le_trans hm.2.1 O0,Nat.le_trans hm.2.2 O0⟩ O0 (by have:=Gp c t;unfold BB at this;omega) hl (λi=>⟨Nat.le_trans (Z i).2 O0,NK (Z i).2⟩) HL4 hH4.1 hH4.2
  go_wp2_with fail
  refine h64.mono ?_;rintro e p⟨⟨v5,rfl,hv5⟩,hb5⟩;obtain⟨l,g,rfl⟩:=Z9 hv5;have s5:=hb5.size;have a5M:Bw I (p.alloc (.cells #[vS (Fe m),vL l ls.length g,vS (G6 (Y2 (S9 c t.data.toList)) W)] 176)):=hb5.alloc s5 _;have sX:(p.alloc (.cells #[vS (Fe m),vL l ls.length g,vS (G6 (Y2 (S9 c t.data.toList)) W)] 176)).heap.size=p.heap.size+1:=O4;have BWx:=BW4.trans (a5M.mono O0);have HSx:=U0 (HS4.out.below a5M);have HMx:=U0 (Yc HMF a5M HMF.out.lt);have S:Hid (E5 (p.alloc (.cells #[vS (Fe m),vL l ls.length g,vS (G6 (Y2 (S9 c t.data.toList)) W)] 176)) p.heap.size [vS (Fe m),vL l ls.length g,vS (G6 (Y2 (S9 c t.data.toList)) W)]):=U0 (I9 p [vS (Fe m),vL l ls.length g,vS (G6 (Y2 (S9 c t.data.toList)) W)] 176);have hrow:=own_below hv5 ((J4 _ _).alloc Y8 (.cells #[vS (Fe m),vL l ls.length g,vS (G6 (Y2 (S9 c t.data.toList)) W)] 176));have GR:=U0 (MZ hrow);obtain⟨x,hx⟩:∃x,Wh W m ls c t=x:=⟨_,rfl⟩;have HX:=U0 hx;have Y:x.key=Fe m:=by rw[<- hx];rfl
  have hxo:x.out=G6 (Y2 (S9 c t.data.toList)) W:=by rw[<- hx];rfl
  have K:x.gs=ls.map (Ux W):=by rw[<- hx];rfl
  have hxl:x.gs.length=ls.length:=by rw[K];simp
  have hxs:x.key.size<=321:=by rw[Y];exact UH hn
  have HRV:Hid (YB B (p.alloc (.cells #[vS (Fe m),vL l ls.length g,vS (G6 (Y2 (S9 c t.data.toList)) W)] 176)) (.agg #[vS x.key,vL l x.gs.length g,vS x.out]) x):=⟨l,g,rfl,by rw[K];exact GR.out.1,by
   rw[K];rcases GR.out.2 with h|⟨b,off,h1,h2⟩
   ·exact .inl h
   exact .inr ⟨b,off,h1,.inr h2⟩⟩
  have h65:=a2U B H bT bR bP W _ rs rv x l g (p.alloc (.cells #[vS (Fe m),vL l ls.length g,vS (G6 (Y2 (S9 c t.data.toList)) W)] 176)) HSx (by rw[K];exact GR.out.1) O0 O0 O0 hgs;rw[Y,hxl,hxo]at h65;have z0:=S.out 0 _ rfl;have z1:=S.out 1 _ rfl;have z2:=S.out 2 _ rfl
  go_wp2_with fail
  refine h65.mono ?_;rintro e w6⟨⟨bt,rfl,hbt⟩,z⟩;generalize (p.alloc (.cells #[vS (Fe m),vL l ls.length g,vS (G6 (Y2 (S9 c t.data.toList)) W)] 176))=x5 at*;have s6:=z.size;have u:=BWx.trans (z.mono O0);have HF6:=U0 (Yc HMx z HMx.out.lt);have U:=U0 (S.out.below z O0);have RV6:=U0 (HRV.out.kept (Bf z) (λ_ e=>by cases e));obtain⟨pl,y,hR6⟩:=HSx.out.below z;have q:=U0 y;have a5Y:=U0 hR6;have HT6:=U0 y.tx;have HR6:=U0 y.rc;have f1:=y.blk 1 _ rfl;have f2:=y.blk 2 _ rfl;have o0:=U.out 0 _ rfl;have o1:=U.out 1 _ rfl;have o2:=U.out 2 _ rfl;have a6C:bT<w.heap.size:=by obtain⟨pl',h1,_⟩:=HSH.out;exact h1.tx.lt
  have a5N:=U0 hR6.len;have a7q:rv.length<=150:=by rw[a5N.out];exact hrl
  have HDN:=U0 R.out.done.1;have hfn:f.length<=16:=by
   have h1:=fA W (Sl ls c t) ts true;rw[P.out]at h1;have h2:(Sl ls c t).length=(B_ ls).length+1:=by simp[Sl]
   have h3:=qB ls;have h4:=hlo.1;simp only at h1;omega
  have h66:=a3e bT bF _ _ _ f w6 HT6 HF6 R.out.vals O0 (by rw[Ec,List.length_map];unfold maxLen;omega);have Q:Hid (((300<J.length\/(x∉rs/\rs.length=150))->t_ W ts rs m ls c t=4)/\(¬(300<J.length\/(x∉rs/\rs.length=150))->t_ W ts rs m ls c t=0)):=by
   show _/\_;have e:t_ W ts rs m ls c t=if 300<J.length\/150<(yg rs x).length then 4 else 0:=by
    unfold t_;rw[Y7 (λh=>h HRK.out),P.out,Y7 O4,HX.out]
   rw[e];exact⟨λh=>D8 (h.imp id (lG hrl).2),λh=>Y7 (λk=>h (k.imp id (lG hrl).1))⟩
  have hwr:IntKind.i64.wrap ((ts.length:Int)+(f.length:Int))=(ts.length:Int)+(f.length:Int):=IQ O0;have hlT:=y.tx.len underlying272 3;rw[Ec,Je]at hlT;have hlF:=HF6.out.len underlying272 3;rw[Ec]at hlF;have hlR:=y.rc.len underlying273 3;rw[Bl]at hlR;by_cases a5s:300<ts.length+f.length
  ·have d:Hid (t_ W ts rs m ls c t=4):=by show t_ _ _ _ _ _ _ _=4;exact Q.out.1 (.inl O0)
   have hi3:(300:Int)<(ts.length:Int)+(f.length:Int):=O0;go_wp2;go_ret;exact⟨KC d J6,u.mono s,Xc u Y8⟩
  have hi3:¬(300:Int)<(ts.length:Int)+(f.length:Int):=O0;cases bt
  ·have HNX:Hid (x∉rs):=λh=>absurd (hbt.2 h) J6;by_cases a5K:rv.length=150
   ·have d:Hid (t_ W ts rs m ls c t=4):=by show t_ _ _ _ _ _ _ _=4;exact Q.out.1 (.inr ⟨HNX,by rw[<- a5N.out];exact a5K⟩)
    go_wp2;go_ret;exact⟨KC d J6,u.mono s,Xc u Y8⟩
   have d:Hid (t_ W ts rs m ls c t=0):=by show t_ _ _ _ _ _ _ _=0;exact Q.out.2 (λh=>h.elim (λh=>O0) (λh=>a5K (a5N.out.trans h.2)))
   have hi5:((rv.length:Int)==150)=false:=by rw[K_];omega
   go_wp2_with fail
   refine h66.mono ?_;rintro e E⟨rfl,n,o⟩;rw[HDN.out]at n
   replace n:=Ej n
   rw[Ec]at n;have C7:=U0 (q.out.upT o n R.out.asc);have R7:=U0 (a5Y.out.LZ o q);have B7:=G_ o (λj e=>by cases e;exact q.out.hT) O0;have BB7:=(u.mono s).trans B7;have KK7:Hid (KF w E):=by obtain⟨es,ck,F⟩:=Uh q.out.tx;exact(Xc u Y8).trans (Ry o F)
   have neT:some p.heap.size≠some bT:=λe=>by have:=D_ e;omega
   have E7:=U0 (Xa U o O0 neT);have u0:=E7.out 0 _ rfl;have u1:=E7.out 1 _ rfl;have u2:=E7.out 2 _ rfl;have RV7:=RV6.out.kept o (by obtain⟨es,ck,F⟩:=Uh q.out.tx;exact Zv q.out.hT F);have h59:=c168 B H bT bR bP W _ rs rv x l g E ⟨pl,C7,R7⟩ RV7 O0 O0;rw[Y,hxl,hxo]at h59
   go_wp2_with fail
   refine h59.mono ?_;rintro e w8⟨rfl,hS8,hB8,hK8⟩;have HK8:=U0 hK8;have HS8:Hid (Sh B H bT bR bP W ((Q7 W (Sl ls c t) (ts,true)).1.map (gT W)) (yg rs (Wh W m ls c t)) (rv++[.agg #[vS (Fe m),vL l ls.length g,vS (G6 (Y2 (S9 c t.data.toList)) W)]]) w8):=by
    show Sh _ _ _ _ _ _ _ _ _ _;rw[P.out,HX.out,yg,Y7 HNX.out];exact hS8
   clear h59 hS8;go_wp2;go_ret;exact⟨a1T d.out HS8.out,BB7.trans hB8,KK7.out.trans HK8.out⟩
  have HIX:Hid (x∈rs):=by show x∈rs;simpa using hbt
  have d:Hid (t_ W ts rs m ls c t=0):=by show t_ _ _ _ _ _ _ _=0;exact Q.out.2 (λh=>h.elim (λh=>O0) (λh=>h.1 HIX.out))
  clear hbt
  go_wp2_with fail
  refine h66.mono ?_;rintro e E⟨rfl,n,o⟩;rw[HDN.out]at n
  replace n:=Ej n
  rw[Ec]at n;have C7:=U0 (q.out.upT o n R.out.asc);have R7:=U0 (a5Y.out.LZ o q);have B7:=G_ o (λj e=>by cases e;exact q.out.hT) O0;have BB7:=(u.mono s).trans B7;have KK7:Hid (KF w E):=by obtain⟨es,ck,F⟩:=Uh q.out.tx;exact(Xc u Y8).trans (Ry o F)
  have HS8:Hid (Sh B H bT bR bP W ((Q7 W (Sl ls c t) (ts,true)).1.map (gT W)) (yg rs (Wh W m ls c t)) rv E):=by
   show Sh _ _ _ _ _ _ _ _ _ _;rw[P.out,HX.out,yg,D8 HIX.out];exact⟨pl,C7,R7⟩
  go_wp2;go_ret;exact⟨a1T d HS8,BB7,KK7⟩
 have d:Hid (t_ W ts rs m ls c t=3):=by show t_ _ _ _ _ _ _ _=3;unfold t_;rw[if_neg (λh=>h HRK.out),if_pos hno]
 go_wp2;go_ret;exact⟨KC d J6,BW4.mono s,Xc BW4 Y8⟩
